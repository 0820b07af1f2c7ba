import PyProof.Rows.All
import Wide.All
import OpenK.AllK
import Wide.FinOn
import HandS.ForMost
import HandS.Strs
import HandS.IsInst
import HandS.Codes
import PyProof.Rows.StrMeet
import PyProof.Rows.StrRevDown
import PyProof.ReprRoads
import PyProof.CallFns
import HandS.EndTab
import HandS.Defaults
import KE.DataMinMax
import HandS.SetFor
import HandS.SetBool
import PyProof.StrLawsIn
import PyProof.NeKinds
import PyProof.Rows.ReprOcc
import HandS.TupAny
import PyProof.Rows.StrAscii
import HandS.StrMore
import PyProof.EqKinds
import PyProof.FactsAll.dict_1
import HandS.Style
import HandS.AnyAll
import HandS.GenList
import HandS.Small
import HandS.Rev
import HandS.Flow
import HandS.More
import PyProof.P3Eq
import HandS.ForExc
import HandS.FStr
import HandS.RaiseMore
import HandS.MakeKwOnly
import HandS.Exc
import HandS.ExcIs
import HandS.ExcField
import HandS.Lambda
import HandS.SortKw
import HandS.Dict
import HandS.DictComp
import HandS.ListItems
import HandS.Iter
import KE.GoesMore
import KE.DataEq
import KE.DatumOrd
import PySem.Challenge.RW_neverwas_k29_whole_budgets_lowered
/-! Base -/
set_option Elab.async false
set_option linter.all false
set_option maxRecDepth 100000
namespace NV
open PySem PySem.Spec PyProof.Rows L2
def topS (i : Nat) : Stmt := PySem.Challenge.pw_neverwas_k29_whole_budgets_lowered.main.body.getD i (.Pass ⟨0, 0, 0, 0⟩)
/-- a def of the top: where it stands, and that its name still holds it -/
structure Fn (K : PySem.W.Frag) (mg : Str → Option Value) (nm : Str) (st : Stmt) (ps : List Str) : Type where
  f : Addr
  fd : FuncData
  F : Fun K nm nm st f fd
  m : mg nm = some (.ref f)
  b : Binds K fd ps []
section
variable {X : Cx}
theorem pe_fn {nm : Str} {st : Stmt} {ps : List Str} {sp : Sp} {e : Expr} {es : List Expr} {t : TA} {p pos : Pos} {j k : Nat} (D : Fn X.K X.mg nm st ps) (G : FnOk X.prog X.w X.K X.mg X.base CX0 j D.f D.fd ps sp) (hr : Room k X.A) (ha : PA X (e :: es) t)
    (hk : j ≤ k := by decide) (hg : Gl X nm := by rfl) (hdb : (nm == ("__debug__" : Str)) = false := by decide) (he : starEach (e :: es) X.env = (false, eval e X.env) :: starEach es X.env := by rfl) (hpl : (backTo pos (starEach es X.env)).any (·.1) = false := by rfl) :
    PE X (.Call (.Name nm p) (e :: es) [] pos) (tCall sp [] (fun _ _ _ => False) t) := pe_call G (hr.mono hk) hg D.m D.F.kp D.b .nil pass0 ha hdb he hpl
end
/-! ### the rules whose reading names the written part, with that part as an argument: for the blocks of comprehensions -/
section
variable {X : Cx}
theorem lenE (K : PySem.W.Frag) (h : X.K = K := by rfl) : CallR X (.builtin "len") (fun xs H Q => ∃ p ys, xs = [.ref p] ∧ (SqL K H p ys ∨ SqT K H p ys) ∧ Q (.int ys.length) H) := by
  rw [← h]; exact call_len_seq
theorem lenVE (K : PySem.W.Frag) (h : X.K = K := by rfl) : CallR X (.builtin "len") (fun xs H Q => ∃ x n, xs = [x] ∧ LenV K x H n ∧ Q (.int n) H) := by
  rw [← h]; exact call_len
theorem listE (K : PySem.W.Frag) (h : X.K = K := by rfl) : CallR X (.type "list") (fun xs H Q => ∃ p ys, xs = [.ref p] ∧ (SqL K H p ys ∨ SqT K H p ys) ∧ ∀ l, H l = none → Q (.ref l) (upd H l (.lst ys))) := by
  rw [← h]; exact call_list_of
theorem sortedE (K : PySem.W.Frag) (h : X.K = K := by rfl) : CallR X (.builtin "sorted") (rSortedS K) := by
  rw [← h]; exact cr_sortedS
theorem ixlE (K : PySem.W.Frag) (h : X.K = K := by rfl) : IxR X (rIxL K) := by
  rw [← h]; exact ix_list
theorem ixtE (K : PySem.W.Frag) (h : X.K = K := by rfl) : IxR X (rIxT K) := by
  rw [← h]; exact ix_tup
theorem sllE (K : PySem.W.Frag) (h : X.K = K := by rfl) : SlR X (rSlL K) := by
  rw [← h]; exact sl_list
theorem sltE (K : PySem.W.Frag) (h : X.K = K := by rfl) : SlR X (rSlT K) := by
  rw [← h]; exact sl_tup
theorem inE (K : PySem.W.Frag) (h : X.K = K := by rfl) : OpR X (compareOp .In) (rIn K false) := by
  rw [← h]; exact op_in_seq
theorem notInE (K : PySem.W.Frag) (h : X.K = K := by rfl) : OpR X (compareOp .NotIn) (rIn K true) := by
  rw [← h]; exact op_notIn_seq
theorem eqDE (K : PySem.W.Frag) (hu : X.A.units + 64 < cLine) (h : X.K = K := by rfl) : OpR X (compareOp .Eq) (rEqD K) := by
  rw [← h]; exact op_eqD hu
theorem neDE (K : PySem.W.Frag) (hu : X.A.units + 64 < cLine) (h : X.K = K := by rfl) : OpR X (compareOp .NotEq) (rNeD K) := by
  rw [← h]; exact op_neD hu
theorem bmE (K : PySem.W.Frag) {T name id : String} {r : V → List V → Hp → VK → Prop} {o e : Expr} {es : List Expr} {to : TE} {t : TA} {apos cpos : Pos} (pa : PlainAttrs T) (slot : Slot T name id) (hty : typeOf (.builtin id) = pure (.type "method_descriptor")) (hm : MtR X id r) (ho : PE X o to) (ha : PA X (e :: es) t) (h : X.K = K := by rfl)
    (hbase : attributeBase o name X.env (eval o X.env) = eval o X.env := by rfl)
    (hfew : ((backTo cpos (starEach (e :: es) X.env)).all (fun x => !x.1) && (backToKw cpos (keywordEach [] X.env)).all (fun x => x.1.isSome)
      && decide ((e :: es).length + ([] : List Keyword).length + (if ([] : List Keyword).isEmpty then 0 else 1) < 30)) = true := by rfl)
    (hline : (apos.endLine == cpos.line) = true := by rfl) (hs : starEach (e :: es) X.env = (false, eval e X.env) :: starEach es X.env := by rfl) (hplain : (backTo cpos (starEach es X.env)).any (·.1) = false := by rfl) :
    PE X (.Call (.Attribute o name apos) (e :: es) [] cpos) (tBM K T r to t) := by
  rw [← h]; exact pe_bm pa slot hty hm ho ha hbase hfew hline hs hplain
theorem piListE (K : PySem.W.Frag) {tg l : Expr} {tl : TE} (hl : PE X l tl) (h : X.K = K := by rfl) : PI X tg l (iList K tl) := by
  rw [← h]; exact pi_list hl
theorem piTupE (K : PySem.W.Frag) {tg l : Expr} {tl : TE} (hl : PE X l tl) (h : X.K = K := by rfl) : PI X tg l (iTup K tl) := by
  rw [← h]; exact pi_tup hl
end
/-! ### what is kept -/
/-- all but ex stands as it stood -/
def Kp (ex : List Addr) (H H' : Hp) : Prop := ∀ b o, b ∉ ex → H b = some o → H' b = some o
theorem Kp.refl {ex : List Addr} {H : Hp} : Kp ex H H := fun _ _ _ e => e
theorem Kp.trans {ex : List Addr} {H H1 H2 : Hp} (a : Kp ex H H1) (b : Kp ex H1 H2) : Kp ex H H2 := fun c o h e => b c o h (a c o h e)
theorem Kp.of {ex : List Addr} {H H' : Hp} (a : Same H H') : Kp ex H H' := fun b o _ e => a b o e
theorem Kp.laid {ex : List Addr} {H : Hp} {p : Addr} {o : HO} (h : H p = none) : Kp ex H (upd H p o) := fun b u _ e => by rw [upd_ne (ne_of_none e h)]; exact e
theorem Kp.put {ex : List Addr} {H : Hp} {p : Addr} {o : HO} (h : p ∈ ex) : Kp ex H (upd H p o) := fun b u hb e => by rw [upd_ne (fun q => hb (by rw [q]; exact h))]; exact e
theorem Kp.mono {ex ex' : List Addr} {H H' : Hp} (a : Kp ex H H') (h : ∀ b ∈ ex, b ∈ ex') : Kp ex' H H' := fun b o hb e => a b o (fun z => hb (h b z)) e
/-! ### the law's draws -/
/-- the draw's dict, its list of great numbers, its list of all -/
structure Dr where
  d : Addr
  l : Addr
  it : Addr
abbrev Dr.ex (D : Dr) : List Addr := [D.d, D.l]
abbrev Dr.all (D : Dr) : List Addr := [D.d, D.l, D.it]
theorem Dr.sub {D : Dr} {p : Addr} (h : p ∉ D.all) : p ∉ D.ex := fun z => h (by
  rcases List.mem_cons.mp z with z | z
  · rw [z]; exact List.mem_cons_self
  · rw [List.mem_singleton.mp z]; exact List.mem_cons_of_mem _ List.mem_cons_self)
abbrev kLarge : Key := Sum.inr "large"
abbrev kItems : Key := Sum.inr "small"
abbrev kLeft : Key := Sum.inr "rest"
abbrev kTurn : Key := Sum.inr "turn"
def drV (D : Dr) (left turn : Int) : List (Key × V) := [(kLarge, .ref D.l), (kLeft, .int left), (kItems, .ref D.it), (kTurn, .int turn)]
/-- n more draws are allowed -/
structure DrAt (D : Dr) (n : Nat) (H : Hp) : Prop where
  ne : D.it ≠ D.l
  at_ : ∃ (large items : List Int) (left turn : Int), H D.d = some (.dK (drV D left turn)) ∧ H D.l = some (.lst (large.map V.int)) ∧ H D.it = some (.lst (items.map V.int)) ∧
    (0 ≤ left ∧ 0 ≤ turn ∧ turn + n ≤ 1000000000) ∧ (∀ x ∈ large, 0 ≤ x) ∧ ∀ x ∈ items, 0 ≤ x
theorem DrAt.less {D : Dr} {n m : Nat} {H : Hp} (h : DrAt D n H) (hm : m ≤ n) : DrAt D m H := by
  obtain ⟨h0, large, items, left, turn, h1, h2, h3, ⟨h4, h5, h6⟩, h7, h8⟩ := h
  exact ⟨h0, large, items, left, turn, h1, h2, h3, ⟨h4, h5, by omega⟩, h7, h8⟩
theorem DrAt.keep {D : Dr} {n : Nat} {H H' : Hp} (h : DrAt D n H) (k : Kp [] H H') : DrAt D n H' := by
  obtain ⟨h0, large, items, left, turn, h1, h2, h3, h4⟩ := h
  exact ⟨h0, large, items, left, turn, k _ _ (by simp) h1, k _ _ (by simp) h2, k _ _ (by simp) h3, h4⟩
theorem DrAt.upd {D : Dr} {n : Nat} {H : Hp} {p : Addr} {o : HO} (h : DrAt D n H) (hp : p ∉ D.all) : DrAt D n (upd H p o) := by
  obtain ⟨h0, large, items, left, turn, h1, h2, h3, h4⟩ := h
  have n1 : D.d ≠ p := fun z => hp (by rw [← z]; exact List.mem_cons_self)
  have n2 : D.l ≠ p := fun z => hp (by rw [← z]; exact List.mem_cons_of_mem _ List.mem_cons_self)
  have n3 : D.it ≠ p := fun z => hp (by rw [← z]; exact List.mem_cons_of_mem _ (List.mem_cons_of_mem _ List.mem_cons_self))
  exact ⟨h0, large, items, left, turn, by rw [upd_ne n1]; exact h1, by rw [upd_ne n2]; exact h2, by rw [upd_ne n3]; exact h3, h4⟩
theorem DrAt.fresh {D : Dr} {n : Nat} {H : Hp} (h : DrAt D n H) {p : Addr} (hp : H p = none) : p ∉ D.all := by
  obtain ⟨_, large, items, left, turn, h1, h2, h3, _⟩ := h
  intro z
  rcases List.mem_cons.mp z with z | z
  · rw [z, h1] at hp; cases hp
  · rcases List.mem_cons.mp z with z | z
    · rw [z, h2] at hp; cases hp
    · rw [List.mem_singleton.mp z, h3] at hp; cases hp
end NV
/-! D1g -/
set_option Elab.async false
set_option linter.all false
set_option maxRecDepth 100000
set_option maxHeartbeats 400000
namespace NV
open PySem PySem.Spec PyProof.Rows L2
theorem ne_lk : ¬ (kLarge = kLeft) ∧ ¬ (kLarge = kItems) ∧ ¬ (kLarge = kTurn) ∧ ¬ (kLeft = kItems) ∧ ¬ (kLeft = kTurn) ∧ ¬ (kItems = kTurn) := by decide +kernel
theorem dr_large {D : Dr} {l t : Int} : valV (drV D l t) kLarge = some (.ref D.l) := valV_pos rfl
theorem dr_left {D : Dr} {l t : Int} : valV (drV D l t) kLeft = some (.int l) := (valV_neg ne_lk.1).trans (valV_pos rfl)
theorem dr_items {D : Dr} {l t : Int} : valV (drV D l t) kItems = some (.ref D.it) := (valV_neg ne_lk.2.1).trans ((valV_neg ne_lk.2.2.2.1).trans (valV_pos rfl))
theorem dr_turn {D : Dr} {l t : Int} : valV (drV D l t) kTurn = some (.int t) := (valV_neg ne_lk.2.2.1).trans ((valV_neg ne_lk.2.2.2.2.1).trans ((valV_neg ne_lk.2.2.2.2.2).trans (valV_pos rfl)))
theorem dr_putLeft {D : Dr} {l t z : Int} : putK (drV D l t) kLeft (.int z) = drV D z t := by
  obtain ⟨h1, h2, h3, h4, h5, h6⟩ := ne_lk
  unfold putK drV
  rw [if_pos (by simp)]
  simp [h1, Ne.symm h4, Ne.symm h5]
theorem dr_putTurn {D : Dr} {l t z : Int} : putK (drV D l t) kTurn (.int z) = drV D l z := by
  obtain ⟨h1, h2, h3, h4, h5, h6⟩ := ne_lk
  unfold putK drV
  rw [if_pos (by simp)]
  simp [h3, h5, h6]
theorem DrAt.nd {D : Dr} {n : Nat} {H : Hp} (h : DrAt D n H) : D.d ≠ D.l ∧ D.d ≠ D.it := by
  obtain ⟨h0, large, items, left, turn, h1, h2, h3, h4⟩ := h
  exact ⟨ne_of h1 h2 (by intro z; cases z), ne_of h1 h3 (by intro z; cases z)⟩

theorem fmod_in {i j : Int} (h : 0 < j) : 0 ≤ i.fmod j ∧ i.fmod j < j := by
  rw [Int.fmod_eq_emod_of_nonneg i (Int.le_of_lt h)]
  exact ⟨Int.emod_nonneg i (by omega), Int.emod_lt_of_pos i h⟩
theorem fdiv_in {i j : Int} (h0 : 0 ≤ i) (h : 0 < j) : 0 ≤ i.fdiv j ∧ i.fdiv j ≤ i := by
  rw [Int.fdiv_eq_ediv_of_nonneg i (Int.le_of_lt h)]
  exact ⟨Int.ediv_nonneg h0 (Int.le_of_lt h), Int.ediv_le_self j h0⟩
end NV
/-! D2g -/
set_option Elab.async false
set_option linter.all false
set_option maxRecDepth 100000
set_option maxHeartbeats 400000
namespace NV
open PySem PySem.Spec PyProof.Rows L2
open C8 (pss_cut)
theorem dp_ints {K : PySem.W.Frag} {H : Hp} : ∀ ns : List Int, DpAll K H (ns.map V.int) (ns.map PyData.int)
  | [] => .nil
  | n :: r => .cons (.int n) (dp_ints r)
theorem ints_lay : ∀ ns : List Int, PyData.canLayAll0 (ns.map PyData.int) = true
  | [] => rfl
  | n :: r => ints_lay r
theorem ints_depth : ∀ ns : List Int, PyData.depthAll (ns.map PyData.int) = 0
  | [] => rfl
  | n :: r => by show max 0 (PyData.depthAll (r.map PyData.int)) = 0; rw [ints_depth r]; rfl
theorem ints_shaped (ns : List Int) : SeqAt.shaped (.list (ns.map .int)) = true := by
  unfold SeqAt.shaped
  rw [show PyData.canLay0 (.list (ns.map .int)) = true from ints_lay ns, show PyData.depth (.list (ns.map .int)) = 0 + 1 from congrArg (· + 1) (ints_depth ns)]
  rfl
theorem nil_shaped : SeqAt.shaped (.list []) = true := rfl
theorem eqv_nil : ∀ ds : List PyData, PyData.eqv (.list ds) (.list []) = ds.isEmpty
  | [] => rfl
  | _ :: _ => rfl

theorem dg_large {D : Dr} {l t : Int} {H : Hp} (h : H D.d = some (.dK (drV D l t))) : DGet H D.d (.str "large") (some (.ref D.l)) := dr_large ▸ DGet.k (k := kLarge) h
theorem sq_at {i : Int} {n : Nat} (h0 : 0 ≤ i) (h : i < n) : seqIndex? i n = some i.toNat := by
  unfold seqIndex?
  have e : (if i < 0 then i + (n : Int) else i) = i := if_neg (by omega)
  simp only [e]
  rw [if_pos (by simp [h0, h])]
end NV
/-! D3g -/
set_option Elab.async false
set_option linter.all false
set_option maxRecDepth 100000
set_option maxHeartbeats 400000
namespace NV
open PySem PySem.Spec PyProof.Rows L2
open C8 (pss_cut)
theorem Kp.seqL {K : PySem.W.Frag} {ex : List Addr} {H H' : Hp} {a : Addr} {xs : List V} (e : Kp ex H H') (ha : a ∉ ex) (h : SqL K H a xs) : SqL K H' a xs := by
  rcases h with (h | ⟨o, h⟩) | h
  · exact .inl (.inl (e _ _ ha h))
  · exact .inl (.inr ⟨o, e _ _ ha h⟩)
  · exact .inr h
theorem Kp.seqT {K : PySem.W.Frag} {ex : List Addr} {H H' : Hp} {a : Addr} {xs : List V} (e : Kp ex H H') (ha : a ∉ ex) (h : SqT K H a xs) : SqT K H' a xs := by
  rcases h with (h | ⟨o, h⟩) | h
  · exact .inl (.inl (e _ _ ha h))
  · exact .inl (.inr ⟨o, e _ _ ha h⟩)
  · exact .inr h
end NV
/-! Ord -/
set_option linter.all false
/-! texts in order -/
namespace NV
open PySem PySem.Spec PyProof.Rows L2
def ltS (a b : Str) : Prop := a.cps.toList < b.cps.toList
theorem ltS_iff {a b : Str} : ltCps a.cps.toList b.cps.toList = true ↔ ltS a b := by rw [ltCps_eq, decide_eq_true_eq]; exact Iff.rfl
theorem ltS_irrefl (a : Str) : ¬ ltS a a := List.lt_irrefl _
theorem ltS_trans {a b c : Str} (h : ltS a b) (h' : ltS b c) : ltS a c := List.lt_trans h h'
theorem ltS_total {a b : Str} (h : ¬ ltS a b) (h' : ¬ ltS b a) : a = b := ext_toList (List.le_antisymm (List.not_lt.mp h') (List.not_lt.mp h))
instance (a b : Str) : Decidable (ltS a b) := inferInstanceAs (Decidable (a.cps.toList < b.cps.toList))
abbrev Asc (l : List Str) : Prop := l.Pairwise ltS
theorem rising_pw : ∀ (l : List Str) (p : Str), risingS p l = true → (∀ x ∈ l, ¬ ltS x p) ∧ l.Pairwise (fun a b => ¬ ltS b a)
  | [], _, _ => ⟨fun x hx => by simp at hx, .nil⟩
  | y :: r, p, h => by
    have h' : (!ltCps y.cps.toList p.cps.toList && risingS y r) = true := h
    rw [Bool.and_eq_true, Bool.not_eq_true'] at h'
    have h0 : ¬ ltS y p := fun q => by rw [ltS_iff.mpr q] at h'; exact Bool.noConfusion h'.1
    obtain ⟨h1, h2⟩ := rising_pw r y h'.2
    refine ⟨fun x hx => ?_, List.pairwise_cons.mpr ⟨h1, h2⟩⟩
    rcases List.mem_cons.mp hx with e | hx
    · rw [e]; exact h0
    · intro q
      have q1 := h1 x hx
      by_cases q2 : ltS p x
      · exact ltS_irrefl _ (ltS_trans q q2)
      · have : ltS y x ∨ y = x := by
          by_cases z : ltS y x
          · exact .inl z
          · exact .inr (ltS_total z q1)
        rcases this with z | z
        · exact h0 (ltS_trans z q)
        · rw [← z] at q; exact h0 q
theorem sorted_asc {l : List Str} (h : sortedS l = true) (d : l.Nodup) : Asc l := by
  have pw : l.Pairwise (fun a b => ¬ ltS b a) := by
    cases l with
    | nil => exact .nil
    | cons x r =>
      obtain ⟨h1, h2⟩ := rising_pw r x h
      exact List.pairwise_cons.mpr ⟨h1, h2⟩
  exact (pw.and d).imp fun {a b} ⟨h1, h2⟩ => Classical.byContradiction fun h3 => h2 (ltS_total h3 h1)
theorem Asc.nodup {l : List Str} (h : Asc l) : l.Nodup := h.imp fun {a b} q e => by rw [e] at q; exact ltS_irrefl _ q
/-- two rising lists of the same members are one -/
theorem asc_same : ∀ {l m : List Str}, Asc l → Asc m → (∀ x, x ∈ l ↔ x ∈ m) → l = m
  | [], [], _, _, _ => rfl
  | [], y :: r, _, _, h => absurd ((h y).mpr List.mem_cons_self) (by simp)
  | x :: l, [], _, _, h => absurd ((h x).mp List.mem_cons_self) (by simp)
  | x :: l, y :: m, hl, hm, h => by
    obtain ⟨l1, l2⟩ := List.pairwise_cons.mp hl
    obtain ⟨m1, m2⟩ := List.pairwise_cons.mp hm
    have e : x = y := by
      rcases List.mem_cons.mp ((h x).mp List.mem_cons_self) with q | q
      · exact q
      · rcases List.mem_cons.mp ((h y).mpr List.mem_cons_self) with z | z
        · exact z.symm
        · exact absurd (ltS_trans (l1 y z) (m1 x q)) (ltS_irrefl _)
    subst e
    rw [asc_same l2 m2 fun z => ⟨fun q => ?_, fun q => ?_⟩]
    · rcases List.mem_cons.mp ((h z).mp (List.mem_cons_of_mem _ q)) with w | w
      · rw [w] at q; exact absurd (l1 x q) (ltS_irrefl _)
      · exact w
    · rcases List.mem_cons.mp ((h z).mpr (List.mem_cons_of_mem _ q)) with w | w
      · rw [w] at q; exact absurd (m1 x q) (ltS_irrefl _)
      · exact w
end NV
/-! D4g -/
set_option Elab.async false
set_option linter.all false
set_option maxRecDepth 100000
set_option maxHeartbeats 400000
namespace NV
open PySem PySem.Spec PyProof.Rows L2
open C8 (pss_cut)
theorem Kp.drop {p : Addr} {ex : List Addr} {H H' : Hp} (k : Kp (p :: ex) H H') (hp : H p = none) : Kp ex H H' := fun b o hb e => k b o (fun z => by
  rcases List.mem_cons.mp z with z | z
  · rw [z, hp] at e; cases e
  · exact hb z) e
theorem wipe_again {σ : L2.St} {i : Nat} {v : Option V} : wipe ((wipe σ [i]).set i v) [i] = wipe σ [i] := by
  show ((σ.set i none).set i v).set i none = σ.set i none
  rw [List.set_set, List.set_set]
theorem erase_str : ∀ (l : List Str) (j : Nat), (l.map V.str).eraseIdx j = (l.eraseIdx j).map V.str
  | [], _ => rfl
  | _ :: _, 0 => rfl
  | _ :: r, j + 1 => congrArg (_ :: ·) (erase_str r j)
/-- [pool.pop(take(..)) for k in range(cnt)]: some of the pool's texts, each once -/
theorem pops {Dr : Dr} {n : Nat} {te : TE} {i : Nat} {σ : L2.St} {pl C : Addr} {zs : List Str} {cnt : Nat} {H0 : Hp} {Qd : Hp → Prop} (hc : cnt ≤ zs.length) (hz : zs.length < 1000) (hpl : H0 pl = some (.lst (zs.map V.str))) (hnpl : pl ∉ Dr.all) (hD : DrAt Dr (n + cnt) H0) (nC : H0 C = none)
    (hte : ∀ (j : Nat) (H2 : Hp) (rest : List Str) (m : Nat) (Q : V → Hp → Prop), H2 pl = some (.lst (rest.map V.str)) → 0 < rest.length → rest.length < 1000 → DrAt Dr (m + 1) H2 →
      (∀ (j : Nat) (y : Str) (H3 : Hp), rest[j]? = some y → H3 pl = some (.lst ((rest.eraseIdx j).map V.str)) → Kp (pl :: Dr.ex) H2 H3 → DrAt Dr m H3 → Q (.str y) H3) → te ((wipe σ [i]).set i (some (.int (0 + j)))) H2 Q)
    (hd : ∀ (H' : Hp) (got rest : List Str), got.length = cnt → (rest ++ got).Perm zs → H' C = some (.lst (got.map V.str)) → Kp (pl :: Dr.ex) H0 H' → DrAt Dr n H' → Qd H') :
    ∃ W : Nat → Nat → Hp → Prop, (∃ m, W 0 m (upd H0 C (.lst []))) ∧ ∀ j m H, W j m H →
      ((Itr 0 cnt).stop j H ∧ Qd H) ∨ ((Itr 0 cnt).go j H ∧ ∃ Nx : Hp → Prop, (∀ H', Nx H' → ∃ m', m' < m ∧ W (j + 1) m' H') ∧ ∀ x H', (Itr 0 cnt).yld j H x H' → gName i x (wipe σ [i]) H' fun σ2 H2 => wipe σ2 [i] = wipe σ [i] ∧ tYes σ2 H2 fun b H3 =>
        if b = true then te σ2 H3 fun y H4 => ∃ acc, H4 C = some (.lst acc) ∧ acc.length < sizeLine ∧ Nx (upd H4 C (.lst (acc ++ [y]))) else Nx H3) := by
  have nCp : C ≠ pl := fun e => by rw [e, hpl] at nC; cases nC
  have nCa : C ∉ Dr.all := hD.fresh nC
  have nCe : C ∉ Dr.ex := Dr.sub nCa
  refine lc_range (lo := 0) (n := cnt) (fun j H' => ∃ rest got : List Str, H' pl = some (.lst (rest.map V.str)) ∧ H' C = some (.lst (got.map V.str)) ∧ (rest ++ got).Perm zs ∧ got.length = j ∧ rest.length + j = zs.length ∧ Kp (C :: pl :: Dr.ex) H0 H' ∧ DrAt Dr (n + (cnt - j)) H') ?_ (fun j H' hj h => ?_) (fun H' h => ?_)
  · refine ⟨zs, [], by rw [upd_ne nCp.symm]; exact hpl, upd_same, by simp, rfl, rfl, Kp.put List.mem_cons_self, (hD.keep (Kp.laid nC)).less (by omega)⟩
  · obtain ⟨rest, got, h1, h2, h3, h4, h5, h6, h7⟩ := h
    refine ⟨wipe_again, ?_⟩
    change te ((wipe σ [i]).set i (some (.int (0 + (j : Int))))) H' _
    refine hte j H' rest (n + (cnt - (j + 1))) _ h1 (by omega) (by omega) (h7.less (by omega)) fun t y H3 ht e3 k3 d3 => ?_
    have hC3 : H3 C = some (.lst (got.map V.str)) := k3 _ _ (fun z => by
      rcases List.mem_cons.mp z with z | z
      · exact nCp z
      · exact nCe z) h2
    have hsl : got.length < sizeLine := small1000 (by omega)
    have ht' := (List.getElem?_eq_some_iff.mp ht).1
    refine ⟨_, hC3, by rw [List.length_map]; exact hsl, rest.eraseIdx t, got ++ [y], by rw [upd_ne nCp.symm]; exact e3, by rw [upd_same, List.map_append]; rfl, ?_, by rw [List.length_append, h4]; rfl, by rw [List.length_eraseIdx_of_lt ht']; omega, (h6.trans (k3.mono fun b hb => List.mem_cons_of_mem _ hb)).trans (Kp.put List.mem_cons_self), ?_⟩
    · refine List.Perm.trans ?_ h3
      have p1 : (y :: rest.eraseIdx t).Perm rest := erase_perm rest t y ht
      have p2 : (rest.eraseIdx t ++ (got ++ [y])).Perm ((y :: rest.eraseIdx t) ++ got) := by
        rw [← List.append_assoc]
        exact List.perm_append_singleton _ _
      exact p2.trans (p1.append_right got)
    · exact d3.upd nCa
  · obtain ⟨rest, got, h1, h2, h3, h4, h5, h6, h7⟩ := h
    exact hd H' got rest h4 h3 h2 (h6.drop nC) (h7.less (by omega))
end NV
/-! D5g -/
set_option Elab.async false
set_option linter.all false
set_option maxRecDepth 100000
set_option maxHeartbeats 400000
namespace NV
open PySem PySem.Spec PyProof.Rows L2
open C8 (pss_cut)
theorem Kp.none_before {D : Dr} {n : Nat} {H H' : Hp} {p : Addr} (k : Kp D.ex H H') (hp : H' p = none) (d : DrAt D n H') : H p = none := by
  cases e : H p with
  | none => rfl
  | some o =>
    rw [k p o (Dr.sub (d.fresh hp)) e] at hp
    cases hp
end NV
/-! D6g -/
set_option Elab.async false
set_option linter.all false
set_option maxRecDepth 100000
set_option maxHeartbeats 400000
namespace NV
open PySem PySem.Spec PyProof.Rows L2
open C8 (pss_cut)
def cellPool : List Str := ["a", "b", "c", "ab", "ba", "aa", "zz", "zzzz", "abcd", "q"]
theorem cellPool_nd : cellPool.Nodup := by decide +kernel
end NV
/-! D7g -/
set_option Elab.async false
set_option linter.all false
set_option maxRecDepth 100000
set_option maxHeartbeats 400000
namespace NV
open PySem PySem.Spec PyProof.Rows L2
open C8 (pss_cut)
def isSign (digits : Bool) (c : Nat) : Bool := (97 ≤ c && c ≤ 122) || (digits && (48 ≤ c && c ≤ 57))
/-- a word of 1 to most signs -/
def wordB (most : Nat) (digits : Bool) (z : Str) : Bool := decide (1 ≤ z.cps.size) && decide (z.cps.size ≤ most) && z.cps.toList.all (isSign digits)
abbrev idB (z : Str) : Bool := wordB 6 true z
abbrev cellB (z : Str) : Bool := wordB 4 false z
theorem cellPool_ok : ∀ y ∈ cellPool, cellB y = true := by decide +kernel
def idPool : List Str := ["a", "b", "1", "00", "z9", "zzzzzz", "000000", "a1", "q", "write", "query", "budget", "reads", "end"]
def wIds (n : Nat) : List Str := (List.range n).map fun k : Nat => ("w" : Str) ++ Str.ofString (toString (k : Int))
def xIds (n : Nat) : List Str := (List.range n).map fun k : Nat => ("x" : Str) ++ Str.ofString (toString (k : Int))
theorem pool1_62 : (idPool ++ xIds 62).Nodup := by decide +kernel
theorem pool2_62 : (wIds 62 ++ xIds 62).Nodup := by decide +kernel
theorem ids_62 : (∀ y ∈ idPool ++ xIds 62, idB y = true) ∧ ∀ y ∈ wIds 62, idB y = true := by decide +kernel
theorem len_dec : ∀ j : Nat, j < 62 → (Str.ofString (toString (j : Int))).length ≤ 3 := by decide +kernel
theorem w_len (j : Nat) (h : j < 62) : ("w" : Str).length + (Str.ofString (toString (j : Int))).length ≤ sizeLine := by
  have e : ("w" : Str).length = 1 := rfl
  have := len_dec j h
  rw [e, sizeLine_eq]; omega
theorem x_len (j : Nat) (h : j < 62) : ("x" : Str).length + (Str.ofString (toString (j : Int))).length ≤ sizeLine := by
  have e : ("x" : Str).length = 1 := rfl
  have := len_dec j h
  rw [e, sizeLine_eq]; omega
/-- a comprehension over a range whose element is a function of the turn -/
theorem lc_pure {te : TE} {i : Nat} {σ : L2.St} {C : Addr} {cnt : Nat} {H0 : Hp} {Qd : Hp → Prop} (f : Nat → V) (hn : cnt < 1000)
    (hte : ∀ (j : Nat) (H2 : Hp) (Q : V → Hp → Prop), j < cnt → Q (f j) H2 → te ((wipe σ [i]).set i (some (.int (0 + j)))) H2 Q) (hd : Qd (upd H0 C (.lst ((List.range cnt).map f)))) :
    ∃ W : Nat → Nat → Hp → Prop, (∃ m, W 0 m (upd H0 C (.lst []))) ∧ ∀ j m H, W j m H →
      ((Itr 0 cnt).stop j H ∧ Qd H) ∨ ((Itr 0 cnt).go j H ∧ ∃ Nx : Hp → Prop, (∀ H', Nx H' → ∃ m', m' < m ∧ W (j + 1) m' H') ∧ ∀ x H', (Itr 0 cnt).yld j H x H' → gName i x (wipe σ [i]) H' fun σ2 H2 => wipe σ2 [i] = wipe σ [i] ∧ tYes σ2 H2 fun b H3 =>
        if b = true then te σ2 H3 fun y H4 => ∃ acc, H4 C = some (.lst acc) ∧ acc.length < sizeLine ∧ Nx (upd H4 C (.lst (acc ++ [y]))) else Nx H3) := by
  refine lc_range (lo := 0) (n := cnt) (fun j H' => H' = upd H0 C (.lst ((List.range j).map f))) rfl (fun j H' hj e => ?_) (fun H' e => by rw [e]; exact hd)
  subst e
  refine ⟨wipe_again, ?_⟩
  change te ((wipe σ [i]).set i (some (.int (0 + (j : Int))))) _ _
  refine hte j _ _ hj ⟨_, upd_same, ?_, ?_⟩
  · rw [List.length_map, List.length_range]
    exact small1000 (by omega)
  · rw [upd_upd, List.range_succ, List.map_append]
    rfl
theorem range_take {n m : Nat} (h : n ≤ m) : List.range n = (List.range m).take n := by
  rw [List.take_range, Nat.min_eq_left h]
theorem xIds_take {n m : Nat} (h : n ≤ m) : xIds n = (xIds m).take n := by
  unfold xIds
  rw [range_take h, List.map_take]
theorem wIds_take {n m : Nat} (h : n ≤ m) : wIds n = (wIds m).take n := by
  unfold wIds
  rw [range_take h, List.map_take]
theorem xIds_len (n : Nat) : (xIds n).length = n := by unfold xIds; rw [List.length_map, List.length_range]
theorem wIds_len (n : Nat) : (wIds n).length = n := by unfold wIds; rw [List.length_map, List.length_range]
/-- all ids that may be drawn -/
def idAll : List Str := idPool ++ wIds 62 ++ xIds 62
/-- what the pool of ids may be -/
structure IdZs (zs : List Str) : Prop where
  nd : zs.Nodup
  ok : ∀ y ∈ zs, idB y = true
  far : ∀ y ∈ zs, y ∈ idAll
theorem pool1_ok {n : Nat} (h : n ≤ 62) : IdZs (idPool ++ xIds n) := by
  have e := xIds_take h
  have sub : (idPool ++ xIds n).Sublist (idPool ++ xIds 62) := by
    rw [e]
    exact (List.take_sublist _ _).append_left _
  exact ⟨pool1_62.sublist sub, fun y hy => ids_62.1 y (sub.subset hy), fun y hy => by
    rcases List.mem_append.mp (sub.subset hy) with z | z
    · exact List.mem_append_left _ (List.mem_append_left _ z)
    · exact List.mem_append_right _ z⟩
theorem pool2_ok {n : Nat} (h : n ≤ 62) : IdZs (wIds n ++ xIds n) := by
  have s1 : (wIds n).Sublist (wIds 62) := by rw [wIds_take h]; exact List.take_sublist _ _
  have s2 : (xIds n).Sublist (xIds 62) := by rw [xIds_take h]; exact List.take_sublist _ _
  refine ⟨pool2_62.sublist (s1.append s2), fun y hy => ?_, fun y hy => ?_⟩
  · rcases List.mem_append.mp hy with z | z
    · exact ids_62.2 y (s1.subset z)
    · exact ids_62.1 y (List.mem_append_right _ (s2.subset z))
  · rcases List.mem_append.mp hy with z | z
    · exact List.mem_append_left _ (List.mem_append_right _ (s1.subset z))
    · exact List.mem_append_right _ (s2.subset z)
theorem digits_small {j : Nat} (h : j < 1000) : (j : Int).natAbs.log2 < 1920 := by
  have : (j : Int).natAbs.log2 ≤ (j : Int).natAbs := Nat.log2_le_self _
  omega

end NV
/-! D9g -/
set_option Elab.async false
set_option linter.all false
set_option maxRecDepth 100000
set_option maxHeartbeats 400000
namespace NV
open PySem PySem.Spec PyProof.Rows L2
open C8 (pss_cut)
/-! ### data that stands still -/
mutual
def Rp (ex : List Addr) (H : Hp) : PyData → V → Prop
  | .none, v => v = .non
  | .bool b, v => v = .bl b
  | .int i, v => v = .int i
  | .str z, v => v = .str z
  | .list ds, v => ∃ a xs, v = .ref a ∧ a ∉ ex ∧ H a = some (.lst xs) ∧ RpAll ex H ds xs
  | .tuple ds, v => ∃ a xs, v = .ref a ∧ a ∉ ex ∧ H a = some (.tup xs) ∧ RpAll ex H ds xs
  | .dict kvs, v => kvs = [] ∧ ∃ a, v = .ref a ∧ a ∉ ex ∧ H a = some (.dK [])
def RpAll (ex : List Addr) (H : Hp) : List PyData → List V → Prop
  | [], vs => vs = []
  | d :: ds, vs => ∃ v ws, vs = v :: ws ∧ Rp ex H d v ∧ RpAll ex H ds ws
end
mutual
theorem Rp.keep {ex : List Addr} {H H' : Hp} (k : Kp ex H H') : ∀ (d : PyData) (v : V), Rp ex H d v → Rp ex H' d v
  | .none, _, h => h
  | .bool _, _, h => h
  | .int _, _, h => h
  | .str _, _, h => h
  | .list ds, v, h => by
    obtain ⟨a, xs, e, na, h1, h2⟩ := h
    exact ⟨a, xs, e, na, k a _ na h1, RpAll.keep k ds xs h2⟩
  | .tuple ds, v, h => by
    obtain ⟨a, xs, e, na, h1, h2⟩ := h
    exact ⟨a, xs, e, na, k a _ na h1, RpAll.keep k ds xs h2⟩
  | .dict kvs, v, h => by
    obtain ⟨z, a, e, na, h1⟩ := h
    exact ⟨z, a, e, na, k a _ na h1⟩
theorem RpAll.keep {ex : List Addr} {H H' : Hp} (k : Kp ex H H') : ∀ (ds : List PyData) (vs : List V), RpAll ex H ds vs → RpAll ex H' ds vs
  | [], _, h => h
  | d :: ds, vs, h => by
    obtain ⟨v, ws, e, h1, h2⟩ := h
    exact ⟨v, ws, e, Rp.keep k d v h1, RpAll.keep k ds ws h2⟩
end
mutual
theorem Rp.less {ex ex' : List Addr} {H : Hp} (s : ∀ b ∈ ex', b ∈ ex) : ∀ (d : PyData) (v : V), Rp ex H d v → Rp ex' H d v
  | .none, _, h => h
  | .bool _, _, h => h
  | .int _, _, h => h
  | .str _, _, h => h
  | .list ds, v, h => by
    obtain ⟨a, xs, e, na, h1, h2⟩ := h
    exact ⟨a, xs, e, fun z => na (s a z), h1, RpAll.less s ds xs h2⟩
  | .tuple ds, v, h => by
    obtain ⟨a, xs, e, na, h1, h2⟩ := h
    exact ⟨a, xs, e, fun z => na (s a z), h1, RpAll.less s ds xs h2⟩
  | .dict kvs, v, h => by
    obtain ⟨z, a, e, na, h1⟩ := h
    exact ⟨z, a, e, fun z => na (s a z), h1⟩
theorem RpAll.less {ex ex' : List Addr} {H : Hp} (s : ∀ b ∈ ex', b ∈ ex) : ∀ (ds : List PyData) (vs : List V), RpAll ex H ds vs → RpAll ex' H ds vs
  | [], _, h => h
  | d :: ds, vs, h => by
    obtain ⟨v, ws, e, h1, h2⟩ := h
    exact ⟨v, ws, e, Rp.less s d v h1, RpAll.less s ds ws h2⟩
end
theorem RpAll.strs {ex : List Addr} {H : Hp} : ∀ zs : List Str, RpAll ex H (zs.map PyData.str) (zs.map V.str)
  | [] => rfl
  | z :: r => ⟨_, _, rfl, rfl, RpAll.strs r⟩
theorem RpAll.app {ex : List Addr} {H : Hp} : ∀ {ds es : List PyData} {xs ys : List V}, RpAll ex H ds xs → RpAll ex H es ys → RpAll ex H (ds ++ es) (xs ++ ys)
  | [], _, _, _, h, h' => by
    have e : _ = [] := h
    subst e
    exact h'
  | d :: ds, es, xs, ys, h, h' => by
    obtain ⟨v, ws, e, h1, h2⟩ := h
    subst e
    exact ⟨v, ws ++ ys, rfl, h1, RpAll.app h2 h'⟩
theorem RpAll.one {ex : List Addr} {H : Hp} {d : PyData} {v : V} (h : Rp ex H d v) : RpAll ex H [d] [v] := ⟨v, [], rfl, h, rfl⟩
theorem RpAll.len {ex : List Addr} {H : Hp} : ∀ {ds : List PyData} {xs : List V}, RpAll ex H ds xs → ds.length = xs.length
  | [], _, h => by
    have e : _ = [] := h
    rw [e]; rfl
  | d :: ds, xs, h => by
    obtain ⟨v, ws, e, _, h2⟩ := h
    rw [e, List.length_cons, List.length_cons, RpAll.len h2]
/-- all of ex is held -/
def Live (ex : List Addr) (H : Hp) : Prop := ∀ b ∈ ex, H b ≠ none
theorem Live.fresh {ex : List Addr} {H : Hp} {p : Addr} (l : Live ex H) (hp : H p = none) : p ∉ ex := fun z => l p z hp
theorem Live.keep {ex : List Addr} {D : Dr} {n : Nat} {H H' : Hp} (l : Live ex H) (k : Kp D.ex H H') (d : DrAt D n H') : Live ex H' := fun b hb e => by
  have := k.none_before e d
  exact l b hb this
/-! ### entries -/
inductive Ent where
  | wr (id : Str) (rs ws : List Str) (pr : Option Int)
  | qu (id : Str) (cs : List Str)
def prD : Option Int → PyData
  | none => .none
  | some i => .int i
def Ent.data : Ent → PyData
  | .wr id rs ws pr => .tuple [.str "write", .str id, .tuple (rs.map .str), .tuple (ws.map .str), prD pr]
  | .qu id cs => .tuple [.str "query", .str id, .tuple (cs.map .str)]
def Ent.id : Ent → Str
  | .wr id .. => id
  | .qu id _ => id
structure CellsOk (least : Nat) (cs : List Str) : Prop where
  asc : Asc cs
  ok : ∀ c ∈ cs, cellB c = true
  lo : least ≤ cs.length
  hi : cs.length ≤ 3
def PrOk (pr : Option Int) : Prop := ∀ i, pr = some i → 1 ≤ i ∧ i ≤ 99
def Ent.Ok : Ent → Prop
  | .wr id rs ws pr => idB id = true ∧ CellsOk 0 rs ∧ CellsOk 1 ws ∧ PrOk pr
  | .qu id cs => idB id = true ∧ CellsOk 1 cs
structure LogOk (es : List Ent) : Prop where
  ok : ∀ e ∈ es, e.Ok
  nd : (es.map Ent.id).Nodup
def logD (es : List Ent) : PyData := .tuple (es.map Ent.data)

def prV : Option Int → V
  | none => .non
  | some i => .int i
theorem prV_rp {ex : List Addr} {H : Hp} : ∀ pr, Rp ex H (prD pr) (prV pr)
  | none => rfl
  | some _ => rfl
end NV
/-! ReprRp -/
set_option Elab.async false
set_option linter.all false
set_option maxRecDepth 100000
set_option maxHeartbeats 600000
/-! repr of data -/
namespace NV
open PySem PySem.Spec PyProof.Rows L2
section
variable {P : Program} {w : World} {ex : List Addr} {H : Hp} {h : Heap}
theorem no_entries (ok : HOk P w H h) {a : Addr} (e : H a = some (.dK [])) : (a == sysModules) = false ∧ ∃ (o : Obj) (es : Array DictEntry) (ep : Nat), h.get? a = some o ∧ o.cls = .type "dict" ∧ o.data = .dict es ep ∧ es.toList = [] := by
  obtain ⟨_, hs, vs, kv, o, es, ep, ho, hx, hd, _, hp, _⟩ := ok a _ e
  cases kv
  refine ⟨hs, o, es, ep, ho, hx.1, hd, ?_⟩
  cases hp' : es.toList with
  | nil => rfl
  | cons x l =>
    rw [hp'] at hp
    cases hp
mutual
theorem rp_reads (ok : HOk P w H h) : ∀ (d : PyData) (v : V) (u : Value), Rp ex H d v → RelV v u → ∃ as, Reads h u d as
  | .none, _, u, e, r => by
    subst e
    obtain rfl : u = Value.none := r
    exact ⟨_, .none⟩
  | .bool b, _, u, e, r => by
    subst e
    obtain rfl : u = Value.bool b := r
    exact ⟨_, .bool b⟩
  | .int i, _, u, e, r => by
    subst e
    obtain ⟨t, rfl⟩ : ∃ t, u = Value.int i t := r
    exact ⟨_, .int i t⟩
  | .str z, _, u, e, r => by
    subst e
    obtain ⟨t, rfl⟩ : ∃ t, u = Value.str z t := r
    exact ⟨_, .str z t⟩
  | .list ds, _, u, e, r => by
    obtain ⟨a, xs, rfl, _, e1, e2⟩ := e
    obtain rfl : u = Value.ref a := r
    obtain ⟨_, its, n, rv, ho⟩ := ok a _ e1
    obtain ⟨as, ra⟩ := rps_reads ok ds xs its e2 rv
    exact ⟨_, .list ho rfl rfl ra⟩
  | .tuple ds, _, u, e, r => by
    obtain ⟨a, xs, rfl, _, e1, e2⟩ := e
    obtain rfl : u = Value.ref a := r
    obtain ⟨_, its, rv, o, ho, hc, n, hd⟩ := ok a _ e1
    obtain ⟨as, ra⟩ := rps_reads ok ds xs its e2 rv
    exact ⟨_, .tuple ho hc hd ra⟩
  | .dict kvs, _, u, e, r => by
    obtain ⟨rfl, a, rfl, _, e1⟩ := e
    obtain rfl : u = Value.ref a := r
    obtain ⟨_, o, es, ep, ho, hc, hd, hn⟩ := no_entries ok e1
    exact ⟨_, .dict ho hc hd (by rw [hn]; exact .nil) (by rw [hn]; exact .nil)⟩
theorem rps_reads (ok : HOk P w H h) : ∀ (ds : List PyData) (vs : List V) (us : List Value), RpAll ex H ds vs → Vals vs us → ∃ as, ReadsAll h us ds as
  | [], _, us, e, r => by
    subst e
    cases r
    exact ⟨_, .nil⟩
  | d :: ds, _, us, e, r => by
    obtain ⟨v, ws, rfl, e1, e2⟩ := e
    cases r with
    | cons r1 r2 =>
      obtain ⟨as, ra⟩ := rp_reads ok d v _ e1 r1
      obtain ⟨bs, rb⟩ := rps_reads ok ds ws _ e2 r2
      exact ⟨_, .cons ra rb⟩
end
mutual
theorem rp_shows (ok : HOk P w H h) : ∀ (d : PyData) (v : V) (u : Value), Rp ex H d v → RelV v u → d.showable = true → d.shown.length ≤ sizeLine → ∃ bs, ReadAtMost h d.depth bs ∧ ReprK P w bs h d.depth u d.shown
  | .none, _, u, e, r, _, _ => by
    subst e
    obtain rfl : u = Value.none := r
    exact ⟨[], (fun _ h => nomatch h), by simp only [PyData.shown]; exact .of_is ReprIs.none _ _ _⟩
  | .bool b, _, u, e, r, _, _ => by
    subst e
    obtain rfl : u = Value.bool b := r
    exact ⟨[], (fun _ h => nomatch h), by simp only [PyData.shown]; exact .of_is (ReprIs.bool b) _ _ _⟩
  | .int i, _, u, e, r, hs, _ => by
    subst e
    obtain ⟨t, rfl⟩ : ∃ t, u = Value.int i t := r
    exact ⟨[], (fun _ h => nomatch h), by simp only [PyData.shown]; exact .of_is (ReprIs.int t (by simpa [PyData.showable] using hs)) _ _ _⟩
  | .str z, _, u, e, r, _, hz => by
    subst e
    obtain ⟨t, rfl⟩ : ∃ t, u = Value.str z t := r
    exact ⟨[], (fun _ h => nomatch h), by simp only [PyData.shown]; exact .of_is (ReprIs.str z t (by simpa only [PyData.shown] using hz)) _ _ _⟩
  | .list ds, v, u, e, r, hs, hz => by
    obtain ⟨as0, r0⟩ := rp_reads ok (.list ds) v u e r
    obtain ⟨a, xs, rfl, _, e1, e2⟩ := e
    obtain rfl : u = Value.ref a := r
    obtain ⟨_, its, n, rv, ho⟩ := ok a _ e1
    have hz' : (listText (PyData.shownAll ds)).length ≤ sizeLine := by simpa only [PyData.shown] using hz
    obtain ⟨bs, hb, hk⟩ := rps_show ok ds xs its e2 rv (by simpa [PyData.showable] using hs) fun t ht => Nat.le_trans (listText_mem_le ht) hz'
    have hna : a ∉ bs := not_mem_of_deeper r0 (by simp only [PyData.depth]; omega) hb
    refine ⟨a :: bs, ReadAtMost.cons r0 (by simp only [PyData.depth]; omega) hb, ?_⟩
    simp only [PyData.depth, PyData.shown]
    cases its with
    | nil =>
      have hl : PyData.shownAll ds = [] := by
        have := hk.length_eq
        exact List.eq_nil_of_length_eq_zero this
      rw [hl, listText_nil]
      exact ReprK.listEmpty ho rfl rfl
    | cons x l => exact ReprK.list ho rfl rfl hna (by simpa using hk.length_eq) (fun i y e => hk.item i y (by simpa using e))
  | .tuple ds, v, u, e, r, hs, hz => by
    obtain ⟨as0, r0⟩ := rp_reads ok (.tuple ds) v u e r
    obtain ⟨a, xs, rfl, _, e1, e2⟩ := e
    obtain rfl : u = Value.ref a := r
    obtain ⟨_, its, rv, o, ho, hc, n, hd⟩ := ok a _ e1
    have hz' : (tupleText (PyData.shownAll ds)).length ≤ sizeLine := by simpa only [PyData.shown] using hz
    obtain ⟨bs, hb, hk⟩ := rps_show ok ds xs its e2 rv (by simpa [PyData.showable] using hs) fun t ht => Nat.le_trans (tupleText_mem_le ht) hz'
    have hna : a ∉ bs := not_mem_of_deeper r0 (by simp only [PyData.depth]; omega) hb
    refine ⟨a :: bs, ReadAtMost.cons r0 (by simp only [PyData.depth]; omega) hb, ?_⟩
    simp only [PyData.depth, PyData.shown]
    exact ReprK.tuple ho hc hd hna hk
  | .dict kvs, v, u, e, r, hs, hz => by
    obtain ⟨as0, r0⟩ := rp_reads ok (.dict kvs) v u e r
    obtain ⟨rfl, a, rfl, _, e1⟩ := e
    obtain rfl : u = Value.ref a := r
    obtain ⟨hsys, o, es, ep, ho, hc, hd, hn⟩ := no_entries ok e1
    refine ⟨[a], ReadAtMost.cons r0 (Nat.zero_le _) (n := 0) (fun _ h => nomatch h), ?_⟩
    exact ReprK.dict ho hc hd hsys (as := []) (by simp) (by rw [hn]; exact .nil)
theorem rps_show (ok : HOk P w H h) : ∀ (ds : List PyData) (vs : List V) (us : List Value), RpAll ex H ds vs → Vals vs us → PyData.showableAll ds = true → (∀ t ∈ PyData.shownAll ds, t.length ≤ sizeLine) →
    ∃ bs, ReadAtMost h (PyData.depthAll ds) bs ∧ ReprAllK P w bs h (PyData.depthAll ds) us (PyData.shownAll ds)
  | [], _, us, e, r, _, _ => by
    subst e
    cases r
    exact ⟨[], (fun _ h => nomatch h), by simp only [PyData.shownAll]; exact .nil⟩
  | d :: ds, _, us, e, r, hs, hz => by
    obtain ⟨v, ws, rfl, e1, e2⟩ := e
    cases r with
    | cons r1 r2 =>
      have hs' : d.showable = true ∧ PyData.showableAll ds = true := by simpa [PyData.showableAll] using hs
      obtain ⟨b1, hb1, k1⟩ := rp_shows ok d v _ e1 r1 hs'.1 (hz _ (by simp only [PyData.shownAll]; exact List.mem_cons_self ..))
      obtain ⟨b2, hb2, k2⟩ := rps_show ok ds ws _ e2 r2 hs'.2 (fun t ht => hz t (by simp only [PyData.shownAll]; exact List.mem_cons_of_mem _ ht))
      refine ⟨b1 ++ b2, ?_, ?_⟩
      · intro b hm
        simp only [PyData.depthAll]
        rcases List.mem_append.mp hm with hm | hm
        · obtain ⟨d', as', r', hd'⟩ := hb1 b hm
          exact ⟨d', as', r', Nat.le_trans hd' (Nat.le_max_left _ _)⟩
        · obtain ⟨d', as', r', hd'⟩ := hb2 b hm
          exact ⟨d', as', r', Nat.le_trans hd' (Nat.le_max_right _ _)⟩
      · simp only [PyData.depthAll, PyData.shownAll]
        exact .cons ((k1.more fun b hb => List.mem_append_left _ hb).level_le (Nat.le_max_left _ _)) (k2.more_le (fun b hb => List.mem_append_right _ hb) (Nat.le_max_right _ _))
end
end
section
variable {X : Cx}
def rRepr : List V → Hp → VK → Prop := fun xs H Q => ∃ (v : V) (d : PyData), xs = [v] ∧ Rp [] H d v ∧ d.showable = true ∧ d.depth ≤ 64 ∧ d.shown.length ≤ sizeLine ∧ Q (.str d.shown) H
theorem cr_repr (hg : X.A.guards = some []) (hu : X.A.units + 80 < cLine) : CallR X (.builtin "repr") rRepr := by
  intro pins s σ H xs us Q I r h
  obtain ⟨v, d, rfl, e, hs, h64, hz, q⟩ := h
  obtain ⟨u, rfl, rv⟩ := vals1 r
  have fin : ∀ {h' : Heap} {u tk}, (∀ b o, s.heap.get? b = some o → h'.get? b = some o) → EP X pins σ Q (.str d.shown u) { s with heap := h', toks := tk } := fun k => ⟨.str d.shown, H, I.kept k, ⟨_, rfl⟩, q⟩
  have hA : X.A.in1.units + d.depth < cLine := by show X.A.units + 1 + d.depth < cLine; omega
  cases d with
  | none =>
    obtain rfl : v = .non := e
    obtain rfl : u = Value.none := rv
    refine PySem.P.repr_of_none ?_
    have := fin (h' := s.heap) (u := s.toks) (tk := s.toks + 1) (fun _ _ e => e)
    simp only [PyData.shown] at this
    exact this
  | bool b =>
    obtain rfl : v = .bl b := e
    obtain rfl : u = Value.bool b := rv
    refine PySem.P.repr_of_bool ?_
    have := fin (h' := s.heap) (u := s.toks) (tk := s.toks + 1) (fun _ _ e => e)
    simp only [PyData.shown] at this
    exact this
  | int i =>
    obtain rfl : v = .int i := e
    obtain ⟨t, rfl⟩ : ∃ t, u = Value.int i t := rv
    refine PySem.P.repr_of_int (by simpa [PyData.showable] using hs) ?_
    have := fin (h' := s.heap) (u := s.toks) (tk := s.toks + 1) (fun _ _ e => e)
    simp only [PyData.shown] at this
    exact this
  | str z =>
    obtain rfl : v = .str z := e
    obtain ⟨t, rfl⟩ : ∃ t, u = Value.str z t := rv
    refine PySem.P.repr_of_str ?_ (by simpa only [PyData.shown] using hz)
    have := fin (h' := s.heap) (u := s.toks) (tk := s.toks + 1) (fun _ _ e => e)
    simp only [PyData.shown] at this
    exact this
  | list ds =>
    obtain ⟨as0, r0⟩ := rp_reads I.hok (.list ds) v u e rv
    obtain ⟨a, xs, rfl, _, e1, e2⟩ := e
    obtain rfl : u = Value.ref a := rv
    obtain ⟨_, its, n, rv', ho⟩ := I.hok a _ e1
    have hz' : (listText (PyData.shownAll ds)).length ≤ sizeLine := by simpa only [PyData.shown] using hz
    obtain ⟨bs, hb, hk⟩ := rps_show I.hok ds xs its e2 rv' (by simpa [PyData.showable] using hs) fun t ht => Nat.le_trans (listText_mem_le ht) hz'
    have hna : a ∉ bs := not_mem_of_deeper r0 (by simp only [PyData.depth]; omega) hb
    simp only [PyData.depth] at hA
    simp only [PyData.shown] at fin
    refine call_repr_slot (by omega) ⟨_, ho, rfl⟩ F.slot_list_repr.toG ?_
    cases its with
    | nil =>
      have hl : PyData.shownAll ds = [] := List.eq_nil_of_length_eq_zero hk.length_eq
      rw [hl, listText_nil] at fin
      exact call_list_repr_empty ⟨_, ho, rfl⟩ ho rfl ⟨_, _, rfl, fin fun _ _ e => e⟩
    | cons x l =>
      exact call_list_reprK ho rfl rfl hna (by simpa using hk.length_eq) (fun i y e => hk.item i y (by simpa using e)) hg (fun b _ => Clear.nil b) hA (fun _ _ e => e) (fun h' u tk k => ⟨_, _, rfl, fin k⟩) hz'
  | tuple ds =>
    obtain ⟨as0, r0⟩ := rp_reads I.hok (.tuple ds) v u e rv
    obtain ⟨a, xs, rfl, _, e1, e2⟩ := e
    obtain rfl : u = Value.ref a := rv
    obtain ⟨_, its, rv', o, ho, hc, n, hd⟩ := I.hok a _ e1
    have hz' : (tupleText (PyData.shownAll ds)).length ≤ sizeLine := by simpa only [PyData.shown] using hz
    obtain ⟨bs, hb, hk⟩ := rps_show I.hok ds xs its e2 rv' (by simpa [PyData.showable] using hs) fun t ht => Nat.le_trans (tupleText_mem_le ht) hz'
    have hna : a ∉ bs := not_mem_of_deeper r0 (by simp only [PyData.depth]; omega) hb
    simp only [PyData.depth] at hA
    simp only [PyData.shown] at fin
    refine call_repr_slot (by omega) ⟨_, ho, hc⟩ F.slot_tuple_repr ?_
    exact call_tuple_reprK ho hc hd hna hk hg (fun b _ => Clear.nil b) hA (fun _ _ e => e) (fun h' u tk k => ⟨_, _, rfl, fin k⟩) hz'
  | dict kvs =>
    obtain ⟨rfl, a, rfl, _, e1⟩ := e
    obtain rfl : u = Value.ref a := rv
    obtain ⟨hsys, o, es, ep, ho, hc, hd, hn⟩ := no_entries I.hok e1
    simp only [PyData.depth, PyData.depthKv] at hA
    simp only [PyData.shown, PyData.shownKv] at fin hz
    refine call_repr_slot (by omega) ⟨_, ho, hc⟩ F.slot_dict_repr ?_
    exact call_dict_reprK ho hc hd hsys (as := []) (by simp) (by rw [hn]; exact .nil) hg (fun b _ => Clear.nil b) hA (fun _ _ e => e) (fun h' u tk k => ⟨_, _, rfl, fin k⟩) hz
end
end NV
/-! FnG -/
set_option Elab.async false
set_option linter.all false
set_option maxRecDepth 100000
set_option maxHeartbeats 600000
/-! defs that run where no repr is under way -/
namespace NV
open PySem PySem.Spec PyProof.Rows L2
structure FnOkG (P : Program) (w : World) (K : PySem.W.Frag) (mg : Str → Option Value) (base : Heap) (CX : CXT) (k : Nat) (f : Addr) (fd : FuncData) (ps : List Str) (sp : Sp) : Prop where
  len : ∀ vs H Q E, sp vs H Q E → vs.length = ps.length
  run : ∀ {A : Around} {outer : List Env} {s : Shared} {H : Hp} {args : Args} {us : List Value} {vs : List V} {Q : VK} {E : XK}, A.guards = some [] → Room k A → Env0 P w K mg base A outer s H → BindsTo s fd args (ps.zip us) → Vals vs us → sp vs H Q E →
    codeAny (model P w) A (.call (.ref f) args) (CR CX outer P w H s Q E) s
theorem FnOkG.of {P : Program} {w : World} {K : PySem.W.Frag} {mg : Str → Option Value} {base : Heap} {CX : CXT} {k : Nat} {f : Addr} {fd : FuncData} {ps : List Str} {sp : Sp} (F : FnOk P w K mg base CX k f fd ps sp) : FnOkG P w K mg base CX k f fd ps sp :=
  ⟨F.len, fun _ hr e b v q => F.run _ _ _ _ _ _ _ _ _ hr e b v q⟩
section
variable {P : Program} {w : World} {K : PySem.W.Frag} {mg : Str → Option Value} {base : Heap}
/-- a def by its body; the body knows that no repr is under way -/
theorem okG {x qual : Str} {st : Stmt} {f : Addr} {fd : FuncData} {N ps : List Str} {k : Nat} {sp : Sp} (F : Fun K x qual st f fd) (S : FnScope N ps (defScope st)) (len : ∀ vs H Q E, sp vs H Q E → vs.length = ps.length)
    (body : ∀ (cdv : Value) (A : Around) (outer : List Env) (s : Shared) (H : Hp) (vs : List V) (Q : VK) (E : XK), (A.deeper (envOfC qual (defScope st) s.heap.objs.size f cdv)).guards = some [] → Room k (A.deeper (envOfC qual (defScope st) s.heap.objs.size f cdv)) → sp vs H Q E →
      ∃ t, PSs (cxOf CX0 P w K mg base N qual (defScope st) f cdv A outer s H E).nox (defBody st) t ∧ t { nx := fun _ H' => Q .non H', rt := Q } (start N vs) H) : FnOkG P w K mg base CX0 (k + 1) f fd ps sp := by
  obtain ⟨oc, od, kV, doc, pm, an, cdv, ct, osl, rfl, lk, hcd⟩ := F.ex
  refine ⟨len, fun {A outer s H args us vs Q E} hg hr e0 hb rel hsp => ?_⟩
  have hl := len _ _ _ _ hsp
  have KX : K.In s.heap := e0.mod.kin.keeps fun b o e => (e0.bs b o e).1
  have lim : s.heap.NoLimit := e0.mod.nolimit.keeps fun b o e => (e0.bs b o e).1
  have named : ∀ y ∈ ps.zip us, (defScope st).names.lookup y.1 = some .local ∨ ((defScope st).names.lookup y.1 = some .cell ∧ ((cellsFrom (s.heap.objs.size + 1) (defScope st).names []).lookup y.1).isSome = true) := fun ⟨n, v⟩ hy =>
    (S.par n (List.of_mem_zip hy).1).elim .inl fun q => .inr ⟨q, PySem.W.cellsFrom_some _ _ _ (.inl q)⟩
  refine codeAny_call_function hr.depth (KX _ _ lk) rfl S.co S.gen rfl (PySem.W.codeRec_of KX hcd) (hb _ _ _ _ (wpAny_newFunctionEnv_cells S.kind named fun env he s1 x => ?_))
  subst he
  obtain ⟨t, ht, hq⟩ := body cdv A outer s H vs Q E hg (hr.deeper _) hsp
  refine ⟨lim.keeps x.toInCall.keep, codeAny_func (wpAny_mono (ht.nox.run [] s1 (start N vs) H _ (inv_start S hr.hd e0 hl rel x) hq) (fun fl s' hs => ?_) fun e s' hs => hs)⟩
  match fl, hs with
  | .ret u, ⟨v, σ', H', J, rv, q⟩ => exact ⟨v, H', J.os, J.bare, J.base, J.hok, rv, q⟩
  | .next, ⟨σ', H', J, q⟩ => exact ⟨.non, H', J.os, J.bare, J.base, J.hok, rfl, q⟩
  | .brk, ⟨_, _, _, q⟩ => exact q.elim
  | .cont, ⟨_, _, _, q⟩ => exact q.elim
end
section
variable {X : Cx} {CX : CXT} {k : Nat} {f : Addr} {fd : FuncData} {ps : List Str} {sp : Sp} {x : Str} {p pos : Pos} {e : Expr} {es : List Expr} {t : TA}
theorem pe_gcall {nm : Str} {st : Stmt} (D : Fn X.K X.mg nm st ps) {j : Nat} (G : FnOkG X.prog X.w X.K X.mg X.base CX0 j D.f D.fd ps sp) (hg0 : X.A.guards = some []) (hr : Room k X.A) (ha : PA X (e :: es) t)
    (hk : j ≤ k := by decide) (hg : Gl X nm := by rfl) (hdb : (nm == ("__debug__" : Str)) = false := by decide) (he : starEach (e :: es) X.env = (false, eval e X.env) :: starEach es X.env := by rfl) (hpl : (backTo pos (starEach es X.env)).any (·.1) = false := by rfl) :
    PE X (.Call (.Name nm p) (e :: es) [] pos) (tCall sp [] (fun _ _ _ => False) t) := by
  refine ⟨fun pins s σ H Q I h => wpAny_Call_Name_kw (ld_glob I hg D.m ?_ hdb)⟩
  refine PySem.W.callWith_K (h₀ := X.base) I.ok.mod.kin D.F.kp (thn (ha.run pos pins s σ H _ I h) fun us s1 ⟨vs, H1, I1, rel, q⟩ => ⟨I1.kIn, ?_⟩) he hpl
  have r2 : Vals (vs ++ []) (us ++ []) := rel.append .nil
  have hl : (us ++ []).length = ps.length := by rw [← r2.length]; exact G.len _ _ _ _ q
  refine wpAny_call (codeAny_mono (G.run hg0 (hr.mono hk) I1.env0 (D.b s1 us I1.kIn hl) r2 q) fun r s' hq => ?_)
  match r, hq with
  | .error e, hq => exact hq.elim
  | .ok (.ret u), hq => exact I1.after hq
  | .ok .next, hq => exact hq.elim
  | .ok .brk, hq => exact hq.elim
  | .ok .cont, hq => exact hq.elim
end
end NV
/-! EndG -/
set_option Elab.async false
set_option linter.all false
set_option maxRecDepth 100000
set_option maxHeartbeats 1000000
/-! the end of a law whose defs ask that no repr be under way -/
namespace NV
open PySem PySem.Spec PyProof.Rows L2
open Classical in
/-- what is tracked at the law's entry: the tables T, and the script where it is no written object -/
noncomputable def entryHp (T : List Addr) (a : Addr) (free : Prop) (u : HO) : Hp := fun b => if b ∈ T then some (.tbl #[]) else if b = a ∧ free then some u else none
section
variable {P : Program} {w : World} {K : PySem.W.Frag} {mg mb : Str → Option Value}
theorem law_callG {CX : CXT} {k : Nat} {fa a : Addr} {cs : List (Addr × Addr)} {fd : FuncData} {x : Str} {sp : Sp} {s : Shared} {vs : List Value} {ns : List Int}
    (KX : K.In s.heap) (glob : s.heap.Ns mainGlobals mg) (blt : s.heap.Ns builtinsNs mb) (boot : ∀ x : Str, x ≠ "__name__" → mb x = bootBuiltins x) (lim : s.heap.NoLimit) (gens : s.gens = #[])
    (tab : ∀ p ∈ cs, s.heap.get? p.2 = some { cls := .none, data := .fields #[] }) (unwr : ∀ p ∈ cs, K.lookup p.2 = none) (code : ∀ p ∈ cs, PySem.W.CodeHd s.heap p.1 p.2)
    (bmod : ∃ (bm : Addr) (ob : Obj), mg "__builtins__" = some (.ref bm) ∧ bm ≠ builtinsNs ∧ s.heap.get? bm = some ob ∧ ob.cls = .type "module" ∧ ob.dict = some builtinsNs ∧ ob.data = .plain)
    (obj : s.heap.get? a = some { cls := .type "list", data := .seq vs.toArray }) (nums : IntsAre vs ns) (few : ns.length ≤ sizeLine) (room : Room k callerA)
    (F : ∀ base : Heap, K.In base → base.Ns mainGlobals mg → (∀ p ∈ cs, LamX.TabB base mg p.1 p.2) → FnOkG P w K mg base CX k fa fd [x] sp) (binds : ∀ (s : Shared) (u : Value), BindsTo s fd ⟨[u], []⟩ [(x, u)])
    (promise : ∀ H : Hp, (∀ p ∈ cs, H p.2 = some (.tbl #[])) → SqL K H a (ns.map V.int) → sp [.ref a] H (fun v _ => v = .bl true) fun _ _ _ => False)
    (noX : ∀ H e s', CX [] H s (fun _ _ _ => False) e s' → False) :
    codeAny (model P w) callerA (.call (.ref fa) ⟨[.ref a], []⟩) (fun r s' => r = .ok (.ret (.bool true)) ∧ OldK s.heap s'.heap ∧ s'.os = s.os ∧ AllBare s'.gens) s := by
  have rv := vals_ints nums
  have lenV := nums.length
  generalize hT : cs.map (·.2) = T
  have inT : ∀ p ∈ cs, p.2 ∈ T := fun p hp => by rw [← hT]; exact List.mem_map.mpr ⟨p, hp, rfl⟩
  have tabT : ∀ b ∈ T, s.heap.get? b = some { cls := .none, data := .fields #[] } ∧ K.lookup b = none := fun b hb => by
    rw [← hT] at hb
    obtain ⟨p, hp, rfl⟩ := List.mem_map.mp hb
    exact ⟨tab p hp, unwr p hp⟩
  have aT : a ∉ T := fun z => by
    have q := (tabT a z).1
    rw [obj] at q
    cases q
  generalize hu : HO.frz { cls := .type "list", data := .seq vs.toArray } (.lst (ns.map V.int)) = u
  generalize hH : entryHp T a (K.lookup a = none) u = H
  have at_T : ∀ b ∈ T, H b = some (.tbl #[]) := fun b hb => by rw [← hH]; exact if_pos hb
  have on_a : ∀ b, b ∉ T → b = a ∧ K.lookup a = none → H b = some u := fun b hb c => by
    rw [← hH]
    exact (if_neg hb).trans (if_pos c)
  have off_a : ∀ b, b ∉ T → ¬ (b = a ∧ K.lookup a = none) → H b = none := fun b hb c => by
    rw [← hH]
    exact (if_neg hb).trans (if_neg c)
  -- nothing tracked is a dict, a module, a code object
  have clear : ∀ {b : Addr} {o : Obj}, s.heap.get? b = some o → (∀ vs n, o.data ≠ .seq vs n) → o.data ≠ .fields #[] → H b = none := fun {b o} e h1 h2 => by
    by_cases hb : b ∈ T
    · have q := (tabT b hb).1
      rw [e] at q
      cases q
      exact (h2 rfl).elim
    · refine off_a b hb ?_
      rintro ⟨rfl, _⟩
      rw [obj] at e
      cases e
      exact h1 _ _ rfl
  have keepB : ∀ {b : Addr} {o : Obj}, s.heap.get? b = some o → (∀ vs n, o.data ≠ .seq vs n) → o.data ≠ .fields #[] → (hidT s.heap H).get? b = some o := fun e h1 h2 => hidT_get e (clear e h1 h2)
  have keepN : ∀ {b : Addr} {m : Str → Option Value}, s.heap.Ns b m → (hidT s.heap H).Ns b m := fun {b m} ⟨o, es, ep, e, d, r⟩ => ⟨o, es, ep, keepB e (by rw [d]; exact fun _ _ z => nomatch z) (by rw [d]; exact fun z => nomatch z), d, r⟩
  have KB : K.In (hidT s.heap H) := fun b o e => hidT_get (KX b o e) (by
    have hb : b ∉ T := fun z => by rw [(tabT b z).2] at e; cases e
    refine off_a b hb ?_
    rintro ⟨rfl, z⟩
    rw [z] at e
    cases e)
  have hok : HOk P w H s.heap := fun b o z => by
    by_cases hb : b ∈ T
    · rw [at_T b hb] at z
      cases z
      exact (tabT b hb).1
    · by_cases c : b = a ∧ K.lookup a = none
      · rw [on_a b hb c, ← hu] at z
        cases z
        rw [c.1]
        exact ⟨obj, by rw [List.length_map]; exact few, vs, _, rv, obj⟩
      · rw [off_a b hb c] at z
        cases z
  have seq : SqL K H a (ns.map V.int) := by
    cases hk : K.lookup a with
    | none => exact .inl (.inr ⟨_, by rw [on_a a aT ⟨rfl, hk⟩, ← hu]⟩)
    | some o =>
      have e := KX a o hk
      rw [obj] at e
      cases e
      exact .inr ⟨_, vs.toArray, _, hk, rfl, rfl, rfl, by rw [List.size_toArray, lenV]; exact few, by simpa using rv⟩
  have TB : ∀ p ∈ cs, LamX.TabB (hidT s.heap H) mg p.1 p.2 := fun p hp => by
    refine ⟨?_, ?_, fun z => ?_⟩
    · obtain ⟨o, us, file, tf, flags, tg, inF, text, tt, e1, r1, r2, r3, r4, r5, r6, r7, r8, r9⟩ := code p hp
      refine ⟨o, us, file, tf, flags, tg, inF, text, tt, keepB e1 (by rw [r2]; exact fun _ _ z => nomatch z) (fun z => ?_), r1, r2, r3, r4, r5, r6, r7, r8, r9⟩
      rw [r2] at z
      cases z
      simp at r3
    · obtain ⟨bm, ob, b1, b2, b3, b4, b5, b6⟩ := bmod
      refine ⟨bm, ob, b1, b2, fun q => ?_, fun q => ?_, keepB b3 (by rw [b6]; exact fun _ _ z => nomatch z) (by rw [b6]; exact fun z => nomatch z), b4, b5, b6⟩
      · obtain ⟨o, es, ep, e, hd, _⟩ := glob
        rw [q, e] at b3
        cases b3
        rw [hd] at b6
        cases b6
      · rw [q, tab p hp] at b3
        cases b3
        cases b6
    · obtain ⟨o, es, ep, e, hd, _⟩ := glob
      rw [z, tab p hp] at e
      cases e
      cases hd
  have e0 : Env0 P w K mg (hidT s.heap H) callerA [] s H := ⟨rfl, ⟨KB, keepN glob, ⟨mb, keepN blt, boot⟩, let ⟨mc, h1, h2⟩ := lim; ⟨mc, keepN h1, h2⟩⟩, fun b o e => of_hidT e, Nat.le_of_eq (hidT_size _ _), trivial, fun b hb => absurd (show b ∈ ([] : List Addr) from hb) (by simp), hok, .of_eq gens⟩
  refine codeAny_mono ((F _ KB (keepN glob) TB).run (us := [.ref a]) (vs := [.ref a]) rfl room e0 (binds s (.ref a)) (.cons rfl .nil) (promise H (fun p hp => at_T _ (inT p hp)) seq)) fun r s' h => ?_
  match r, h with
  | .error e, h => exact (noX H e s' h).elim
  | .ok .next, h => exact False.elim h
  | .ok .brk, h => exact False.elim h
  | .ok .cont, h => exact False.elim h
  | .ok (.ret u'), ⟨v, H', os, bare, un, hok', r', q⟩ =>
    obtain rfl : v = .bl true := q
    obtain rfl : u' = Value.bool true := r'
    have old : ∀ b o, b ∉ T → s.heap.get? b = some o → s'.heap.get? b = some o := fun b o nb e => by
      by_cases c : b = a ∧ K.lookup a = none
      · have z : H b = some u := on_a b nb c
        rw [← hu] at z
        have e1 := (hok b _ z).1
        rw [e] at e1
        cases e1
        exact (hok' b _ (un.frzs b _ _ z)).1
      · exact un.keep b o e (off_a b nb c) (by intro z; exact absurd (show b ∈ ([] : List Addr) from z) (by simp)) (by simp)
    have grown : ∀ b ∈ T, ∃ more : Array Value, s'.heap.get? b = some { cls := .none, data := .fields more } := fun b hb => by
      obtain ⟨more, z⟩ := un.tbls b #[] (at_T b hb)
      exact ⟨_, hok' b _ z⟩
    refine ⟨rfl, ⟨fun b o e => ?_, fun b o e => ?_⟩, os, bare⟩
    · by_cases hb : b ∈ T
      · obtain ⟨more, hm⟩ := grown b hb
        rw [← hT] at hb
        obtain ⟨p, hp, rfl⟩ := List.mem_map.mp hb
        rw [tab p hp] at e
        cases e
        exact .inr (.inl ⟨((code p hp).tab (tab p hp)).isCodeTable, rfl, #[], more, rfl, by rw [Array.empty_append]; exact hm⟩)
      · exact .inl (old b o hb e)
    · by_cases hb : b ∈ T
      · obtain ⟨more, hm⟩ := grown b hb
        exact ⟨_, hm⟩
      · exact ⟨o, old b o hb e⟩
end
/-- what is known of the law's promise behind the top -/
def LawG (l : PySem.W.OpenLaw) (w : World) (K : PySem.W.Frag) (CX : CXT) (k n : Nat) (x : Str) (mg : Str → Option Value) (fa : Addr) (h : Heap) : Prop :=
  ∃ (fd : FuncData) (cs : List (Addr × Addr)) (sp : Sp), ((∀ p ∈ cs, h.get? p.2 = some { cls := .none, data := .fields #[] }) ∧ (∀ p ∈ cs, K.lookup p.2 = none) ∧ ∀ p ∈ cs, PySem.W.CodeHd h p.1 p.2) ∧ (∀ (s : Shared) (u : Value), BindsTo s fd ⟨[u], []⟩ [(x, u)]) ∧
    (∀ (H : Hp) (a : Addr) (ns : List Int), ns.length ≤ n → (∀ z ∈ ns, Builtin.Int.intBits z ≤ 1048576) → (∀ p ∈ cs, H p.2 = some (.tbl #[])) → SqL K H a (ns.map V.int) → sp [.ref a] H (fun v _ => v = .bl true) fun _ _ _ => False) ∧
    ∀ base : Heap, K.In base → base.Ns mainGlobals mg → (∀ p ∈ cs, LamX.TabB base mg p.1 p.2) → FnOkG l.prog w K mg base CX k fa fd [x] sp
theorem walk_ofG {l : PySem.W.OpenLaw} {n k : Nat} {q : Program} {loose : List Str} {XP : (Str → Option Value) → Heap → Prop} {YP : World → Heap → Prop} {d : DefRec} {K : Params → PySem.W.Frag} {x : Str}
    (hn : l.most = some n) (hn2 : n ≤ sizeLine) (hdf : d.params.defaults = []) (hr : Room k callerA) (hY : ∀ (w : World) (h : Heap), YP w h → (K w.params).In h)
    (F : ∀ (w : World) (mg : Str → Option Value) (fa : Addr) (h : Heap), YP w h → (K w.params).In h → h.Ns mainGlobals mg → mg d.name = some (.ref fa) → LawG l w (K w.params) CX0 k n x mg fa h) :
    PySem.W.WalkO q loose XP YP l.row.toRowW d [] (fun f vs => PySem.call f vs) := by
  refine Att.attach_callB hn hdf fun w s0 s mg mb fa o pm cd doc a vs ns G Y ho hd hcd hmg hobj hints hlen hbits hg => ?_
  have KX := hY w _ Y
  obtain ⟨fd, cs, sp, ⟨t1, t2, t3⟩, hb, hsp, hF⟩ := F w mg fa _ Y KX G.T.g hmg
  exact law_callG KX G.T.g G.T.b G.T.builtins G.T.nolimit hg t1 t2 t3 G.T.bmain hobj hints (Nat.le_trans hlen hn2) hr hF hb (fun H hH hS => hsp H a ns hlen hbits hH hS) fun H e s' z => z.elim
end NV
/-! EndK -/
set_option Elab.async false
set_option linter.all false
set_option maxRecDepth 100000
set_option maxHeartbeats 600000
/-! what the top has written, name by name -/
namespace NV
open PySem PySem.Spec PyProof.Rows L2
def At (K : PySem.W.Frag) (nm : Str) (st : Stmt) : Prop := ∃ (f : Addr) (oc : Value) (od : Option Addr) (kV doc pm : Value) (an : Option Addr) (cd ct : Value) (sl : Array (Option Value)),
  PySem.W.nsIn K mainGlobals nm = some (some (.ref f)) ∧ K.lookup f = some ⟨oc, od, .func (PySem.W.fnOf nm nm (defArgs st) (defBody st) (defScope st) .none kV doc pm an cd ct), sl⟩ ∧ PySem.W.codeIn K cd nm = true ∧ PySem.W.keepIn K (.ref f) = true
def AtI (K : PySem.W.Frag) (nm : Str) (i : Int) : Prop := ∃ t, PySem.W.nsIn K mainGlobals nm = some (some (.int i t))
def AtS (K : PySem.W.Frag) (nm : Str) (z : Str) : Prop := ∃ t, PySem.W.nsIn K mainGlobals nm = some (some (.str z t))
section
variable {K : PySem.W.Frag} {h : Heap} {mg : Str → Option Value} {nm : Str} {st : Stmt}
theorem at_mk {f : Addr} {oc : Value} {od : Option Addr} {kV doc pm : Value} {an : Option Addr} {cd ct : Value} {sl : Array (Option Value)} (a : PySem.W.nsIn K mainGlobals nm = some (some (.ref f))) (l : K.lookup f = some ⟨oc, od, .func (PySem.W.fnOf nm nm (defArgs st) (defBody st) (defScope st) .none kV doc pm an cd ct), sl⟩)
    (c : PySem.W.codeIn K cd nm = true) (k : PySem.W.keepIn K (.ref f) = true) : At K nm st := ⟨f, oc, od, kV, doc, pm, an, cd, ct, sl, a, l, c, k⟩
theorem atI_mk {i : Int} {t : Tok} (a : PySem.W.nsIn K mainGlobals nm = some (some (.int i t))) : AtI K nm i := ⟨t, a⟩
theorem atS_mk {z : Str} {t : Tok} (a : PySem.W.nsIn K mainGlobals nm = some (some (.str z t))) : AtS K nm z := ⟨t, a⟩
theorem at_int {i : Int} (X : K.In h) (G : h.Ns mainGlobals mg) (a : AtI K nm i) : ∃ u, mg nm = some u ∧ L2.RelV (.int i) u := by
  obtain ⟨t, e⟩ := a
  exact ⟨_, PySem.W.mg_of X G e, t, rfl⟩
theorem at_str {z : Str} (X : K.In h) (G : h.Ns mainGlobals mg) (a : AtS K nm z) : ∃ u, mg nm = some u ∧ L2.RelV (.str z) u := by
  obtain ⟨t, e⟩ := a
  exact ⟨_, PySem.W.mg_of X G e, t, rfl⟩
theorem fn_at {ps : List Str} (X : K.In h) (G : h.Ns mainGlobals mg) (a : At K nm st)
    (hb : ∀ (kV doc pm : Value) (an : Option Addr) (cdv ct : Value) (us : List Value), us.length = ps.length → bindArgs (PySem.W.fnOf nm nm (defArgs st) (defBody st) (defScope st) .none kV doc pm an cdv ct) ⟨us, []⟩ = pure (ps.zip us)) : Nonempty (Fn K mg nm st ps) := by
  obtain ⟨f, oc, od, kV, doc, pm, an, cd, ct, sl, a1, l1, c1, k1⟩ := a
  have F := fun_mk (st := st) l1 c1 k1
  exact ⟨⟨f, _, F, PySem.W.mg_of X G a1, F.binds hb⟩⟩
/-- a call by the one parameter's name -/
theorem kw_binds {x qual : Str} {f : Addr} {fd : FuncData} {ps ks : List Str} (F : Fun K x qual st f fd)
    (hb : ∀ (kV doc pm : Value) (an : Option Addr) (cdv ct : Value) (us ws : List Value), (us ++ ws).length = ps.length → bindArgs (PySem.W.fnOf x qual (defArgs st) (defBody st) (defScope st) .none kV doc pm an cdv ct) ⟨us, ks.zip ws⟩ = pure (ps.zip (us ++ ws))) : KBinds K fd ps ks (· ++ ·) (· ++ ·) := by
  obtain ⟨oc, od, kV, doc, pm, an, cdv, ct, osl, rfl, lk, hcd⟩ := F.ex
  exact ⟨fun s us ws _ hl => .of_eq (hb kV doc pm an cdv ct us ws hl), fun r1 r2 => r1.append r2⟩
theorem law_binds {x qual y : Str} {f : Addr} {fd : FuncData} (F : Fun K x qual st f fd)
    (hb : ∀ (kV doc pm : Value) (an : Option Addr) (cdv ct : Value) (u : Value), bindArgs (PySem.W.fnOf x qual (defArgs st) (defBody st) (defScope st) .none kV doc pm an cdv ct) ⟨[u], []⟩ = pure [(y, u)]) : ∀ (s : Shared) (u : Value), BindsTo s fd ⟨[u], []⟩ [(y, u)] := by
  obtain ⟨oc, od, kV, doc, pm, an, cdv, ct, osl, rfl, lk, hcd⟩ := F.ex
  exact fun s u => .of_eq (hb kV doc pm an cdv ct u)
end
end NV
/-! CallQ -/
set_option Elab.async false
set_option linter.all false
set_option maxRecDepth 100000
set_option maxHeartbeats 600000
/-! a def of the top called in several ways: by keywords in any order, by keywords alone, without its keyword-only parameter -/
namespace NV
open PySem PySem.Spec PyProof.Rows L2
/-- a def of the top, however it is called -/
structure FnF (K : PySem.W.Frag) (mg : Str → Option Value) (nm : Str) (st : Stmt) : Type where
  f : Addr
  fd : FuncData
  F : Fun K nm nm st f fd
  m : mg nm = some (.ref f)
/-- what stands for the parameters that lack -/
structure Lack (K : PySem.W.Frag) (fd : FuncData) (ps : List Str) (dvs : List V) : Prop where
  ex : ∃ ds, Vals dvs ds ∧ Binds K fd ps ds
section
variable {K : PySem.W.Frag} {x qual : Str} {st : Stmt} {f : Addr} {fd : FuncData} {ps ks : List Str} {n : Nat} {g : List Value → List Value → List Value} {gV : List V → List V → List V}
theorem kbn_mk (F : Fun K x qual st f fd) (hb : ∀ (kV doc pm : Value) (an : Option Addr) (cdv ct : Value) (us ws : List Value), us.length = n → ws.length = ks.length → bindArgs (PySem.W.fnOf x qual (defArgs st) (defBody st) (defScope st) .none kV doc pm an cdv ct) ⟨us, ks.zip ws⟩ = pure (ps.zip (g us ws)))
    (hr : ∀ {vs : List V} {us : List Value} {zs : List V} {ws : List Value}, Vals vs us → Vals zs ws → Vals (gV vs zs) (g us ws)) : KBn K fd ps n ks g gV := by
  obtain ⟨oc, od, kV, doc, pm, an, cdv, ct, osl, rfl, lk, hcd⟩ := F.ex
  exact ⟨fun s us ws _ h1 h2 => .of_eq (hb kV doc pm an cdv ct us ws h1 h2), hr⟩
theorem binds_mk (F : Fun K x qual st f fd) (hb : ∀ (kV doc pm : Value) (an : Option Addr) (cdv ct : Value) (us : List Value), us.length = ps.length → bindArgs (PySem.W.fnOf x qual (defArgs st) (defBody st) (defScope st) .none kV doc pm an cdv ct) ⟨us, []⟩ = pure (ps.zip us)) : Binds K fd ps [] := F.binds hb
end
/-- a def with one keyword-only parameter q whose value, where it lacks, is told by φ -/
def AtQ (K : PySem.W.Frag) (nm : Str) (st : Stmt) (q : Str) (φ : Value → Prop) : Prop := ∃ (f D : Addr) (oc : Value) (od : Option Addr) (doc pm : Value) (an : Option Addr) (cd ct : Value) (sl : Array (Option Value)) (u : Value),
  PySem.W.nsIn K mainGlobals nm = some (some (.ref f)) ∧ K.lookup f = some ⟨oc, od, .func (PySem.W.fnOf nm nm (defArgs st) (defBody st) (defScope st) .none (.ref D) doc pm an cd ct), sl⟩ ∧ PySem.W.codeIn K cd nm = true ∧ PySem.W.keepIn K (.ref f) = true ∧ PySem.W.nsIn K D q = some (some u) ∧ φ u
/-- the empty tuple of the written part -/
def IsTup0 (K : PySem.W.Frag) (u : Value) : Prop := ∃ (T : Addr) (dT : Option Addr) (n : Nat) (sT : Array (Option Value)), u = .ref T ∧ K.lookup T = some ⟨.type "tuple", dT, .seq #[] n, sT⟩
def IsIntV (i : Int) (u : Value) : Prop := ∃ t, u = .int i t
section
variable {K : PySem.W.Frag} {h : Heap} {mg : Str → Option Value} {nm : Str} {st : Stmt} {q : Str} {φ : Value → Prop}
theorem atQ_mk {f D : Addr} {oc : Value} {od : Option Addr} {doc pm : Value} {an : Option Addr} {cd ct : Value} {sl : Array (Option Value)} {u : Value} (a : PySem.W.nsIn K mainGlobals nm = some (some (.ref f))) (l : K.lookup f = some ⟨oc, od, .func (PySem.W.fnOf nm nm (defArgs st) (defBody st) (defScope st) .none (.ref D) doc pm an cd ct), sl⟩)
    (c : PySem.W.codeIn K cd nm = true) (k : PySem.W.keepIn K (.ref f) = true) (d : PySem.W.nsIn K D q = some (some u)) (p : φ u) : AtQ K nm st q φ := ⟨f, D, oc, od, doc, pm, an, cd, ct, sl, u, a, l, c, k, d, p⟩
theorem tup0_mk {T : Addr} {dT : Option Addr} {n : Nat} {sT : Array (Option Value)} (l : K.lookup T = some ⟨.type "tuple", dT, .seq #[] n, sT⟩) : IsTup0 K (.ref T) := ⟨T, dT, n, sT, rfl, l⟩
theorem intV_mk {i : Int} {t : Tok} : IsIntV i (.int i t) := ⟨t, rfl⟩
/-- the def, and how it is called without q -/
theorem fnq_at {ps : List Str} (n : Nat) (X : K.In h) (G : h.Ns mainGlobals mg) (a : AtQ K nm st q φ) (hn : n + 1 = ps.length)
    (hb : ∀ (D : Addr) (doc pm : Value) (an : Option Addr) (cdv ct : Value) (us ks : List Value), us.length = n → ks.length = 1 → KwChain D ([q].zip ks) (bindArgs (PySem.W.fnOf nm nm (defArgs st) (defBody st) (defScope st) .none (.ref D) doc pm an cdv ct) ⟨us, []⟩) (ps.zip (us ++ ks))) :
    ∃ D : FnF K mg nm st, ∃ u, φ u ∧ ∀ v, RelV v u → Lack K D.fd ps [v] := by
  obtain ⟨f, D, oc, od, doc, pm, an, cd, ct, sl, u, a1, l1, c1, k1, d1, p1⟩ := a
  refine ⟨⟨f, _, fun_mk (st := st) l1 c1 k1, PySem.W.mg_of X G a1⟩, u, p1, fun v rv => ?_⟩
  have F : FunD K nm nm (defArgs st) (defBody st) (defScope st) [] [(q, v)] f (PySem.W.fnOf nm nm (defArgs st) (defBody st) (defScope st) .none (.ref D) doc pm an cd ct) :=
    ⟨⟨oc, od, .none, .ref D, doc, pm, an, cd, ct, sl, rfl, l1, c1, .inl ⟨rfl, rfl⟩, .inr ⟨D, rfl, fun p hp => ⟨u, by rw [List.mem_singleton.mp hp]; exact ⟨d1, rv⟩⟩⟩⟩, k1⟩
  obtain ⟨ds, hv, b⟩ := F.binds0 (ps := ps) n (by simp) (by simpa using hn) fun D doc pm an cdv ct us ks h1 h2 => hb D doc pm an cdv ct us ks h1 (by simpa using h2)
  exact ⟨ds, hv, b⟩
end
section
variable {X : Cx} {nm : Str} {st : Stmt} {ps ks : List Str} {sp : Sp} {e : Expr} {es : List Expr} {kws : List Keyword} {t tk : TA} {p pos : Pos} {j k n : Nat} {g : List Value → List Value → List Value} {gV : List V → List V → List V}
/-- f(e, .., k = v, ..) -/
theorem pe_q (D : FnF X.K X.mg nm st) (B : KBn X.K D.fd ps n ks g gV) (G : FnOk X.prog X.w X.K X.mg X.base CX0 j D.f D.fd ps sp) (hr : Room k X.A) (ha : PA X (e :: es) t) (hkw : PK X kws tk)
    (hk : j ≤ k := by decide) (hg : Gl X nm := by rfl) (hall : ((backToKw pos (keywordEach kws X.env)).all (·.1.isSome)) = true := by rfl) (hks : (backToKw pos (keywordEach kws X.env)).filterMap (·.1) = ks := by rfl) (hdb : (nm == ("__debug__" : Str)) = false := by decide)
    (he : starEach (e :: es) X.env = (false, eval e X.env) :: starEach es X.env := by rfl) (hpl : (((backTo pos (starEach (e :: es) X.env)).any (·.1)) || ((backToKw pos (keywordEach kws X.env)).any (·.1.isNone))) = false := by rfl) :
    PE X (.Call (.Name nm p) (e :: es) kws pos) (tCallN n ks.length sp gV (fun _ _ _ => False) t tk) := pe_callN G (hr.mono hk) hg D.m D.F.kp B pass0 ha hkw hall hks hdb he hpl
/-- f(k = v, ..) -/
def tCallW (m : Nat) (sp : Sp) (gV : List V → List V → List V) (tk : TA) : TE := fun σ H Q => tk σ H fun zs H2 => zs.length = m ∧ sp (gV [] zs) H2 Q (fun _ _ _ => False)
theorem pe_q0 (D : FnF X.K X.mg nm st) (B : KBn X.K D.fd ps 0 ks g gV) (G : FnOk X.prog X.w X.K X.mg X.base CX0 j D.f D.fd ps sp) (hr : Room k X.A) (hkw : PK X kws tk)
    (hk : j ≤ k := by decide) (hg : Gl X nm := by rfl) (hall : ((backToKw pos (keywordEach kws X.env)).all (·.1.isSome)) = true := by rfl) (hks : (backToKw pos (keywordEach kws X.env)).filterMap (·.1) = ks := by rfl) (hdb : (nm == ("__debug__" : Str)) = false := by decide)
    (hpl : (((backTo pos (starEach [] X.env)).any (·.1)) || ((backToKw pos (keywordEach kws X.env)).any (·.1.isNone))) = false := by rfl) :
    PE X (.Call (.Name nm p) [] kws pos) (tCallW ks.length sp gV tk) := by
  refine ⟨fun pins s σ H Q I h => ?_⟩
  refine wpAny_Call_Name_kw (ld_glob I hg D.m ?_ hdb)
  refine PySem.W.callWith_KW0 (h₀ := X.base) I.ok.mod.kin D.F.kp hall (thn (hkw.run pos pins s σ H _ I h) fun ws s2 ⟨zs, H2, I2, rz, l2, q2⟩ => ⟨I2.kIn, ?_⟩) hpl
  rw [hks]
  exact run_fnN (vs := []) G (hr.mono hk) B pass0 I2 .nil rz rfl l2 q2
/-- f(e, ..) with all that is wanted -/
theorem pe_qn (D : FnF X.K X.mg nm st) (B : Binds X.K D.fd ps []) (G : FnOk X.prog X.w X.K X.mg X.base CX0 j D.f D.fd ps sp) (hr : Room k X.A) (ha : PA X (e :: es) t)
    (hk : j ≤ k := by decide) (hg : Gl X nm := by rfl) (hdb : (nm == ("__debug__" : Str)) = false := by decide) (he : starEach (e :: es) X.env = (false, eval e X.env) :: starEach es X.env := by rfl) (hpl : (backTo pos (starEach es X.env)).any (·.1) = false := by rfl) :
    PE X (.Call (.Name nm p) (e :: es) [] pos) (tCall sp [] (fun _ _ _ => False) t) := pe_call G (hr.mono hk) hg D.m D.F.kp B .nil pass0 ha hdb he hpl
/-- f(e, ..), some lacking -/
theorem pe_ql {dvs : List V} (D : FnF X.K X.mg nm st) (B : Lack X.K D.fd ps dvs) (G : FnOk X.prog X.w X.K X.mg X.base CX0 j D.f D.fd ps sp) (hr : Room k X.A) (ha : PA X (e :: es) t)
    (hk : j ≤ k := by decide) (hg : Gl X nm := by rfl) (hdb : (nm == ("__debug__" : Str)) = false := by decide) (he : starEach (e :: es) X.env = (false, eval e X.env) :: starEach es X.env := by rfl) (hpl : (backTo pos (starEach es X.env)).any (·.1) = false := by rfl) :
    PE X (.Call (.Name nm p) (e :: es) [] pos) (tCall sp dvs (fun _ _ _ => False) t) := by
  obtain ⟨ds, vs, b⟩ := B.ex
  exact pe_call G (hr.mono hk) hg D.m D.F.kp b vs pass0 ha hdb he hpl
end
end NV
/-! W1 -/
set_option Elab.async false
set_option linter.all false
set_option maxRecDepth 100000
set_option maxHeartbeats 600000
/-! ways: cost and path; what a pass over the log from its end finds -/
namespace NV
open PySem PySem.Spec PyProof.Rows L2
open PySem.W (dataLt alike alikeAll keyToks keyToksAll)
abbrev Path := List (Str × Str)
abbrev Way := Option (Int × Path)
def stepD (s : Str × Str) : PyData := .tuple [.str s.1, .str s.2]
def pathD (p : Path) : PyData := .tuple (p.map stepD)
def someD (x : Int × Path) : PyData := .tuple [.int x.1, pathD x.2]
def wayD : Way → PyData
  | none => .none
  | some x => someD x
theorem alike_paths : ∀ p q : Path, alikeAll (p.map stepD) (q.map stepD) = true
  | [], _ => by simp only [List.map_nil, alikeAll]
  | _ :: _, [] => by simp only [List.map_cons, List.map_nil, alikeAll]
  | a :: p, b :: q => by
    rw [List.map_cons, List.map_cons, alikeAll, alike_paths p q]
    simp [stepD, alike, alikeAll]
theorem alike_ways (x y : Int × Path) : alike (someD x) (someD y) = true := by
  unfold someD pathD
  simp [alike, alikeAll, alike_paths]
theorem depth_steps : ∀ p : Path, PyData.depthAll (p.map stepD) ≤ 1
  | [] => by simp [PyData.depthAll]
  | a :: p => by
    have ih := depth_steps p
    rw [List.map_cons]
    simp only [PyData.depthAll, stepD, PyData.depth]
    omega
theorem depth_way (x : Int × Path) : (someD x).depth ≤ 3 := by
  have := depth_steps x.2
  unfold someD pathD
  simp only [PyData.depth, PyData.depthAll]
  omega
def wayLt (x y : Int × Path) : Bool := dataLt (someD x) (someD y)
theorem wayLt_ne {x y : Int × Path} (h : x.1 ≠ y.1) : wayLt x y = decide (x.1 < y.1) := by
  unfold wayLt someD
  rw [PySem.W.dataLt_tuple, PySem.W.dataLt_all_no (by simp [alike]) (by simp [PyData.eqv, h]), PySem.W.dataLt_int]
theorem wayLt_yes {x y : Int × Path} (h : wayLt x y = true) : x.1 ≤ y.1 := by
  by_cases e : x.1 = y.1
  · omega
  · rw [wayLt_ne e] at h
    have := of_decide_eq_true h
    omega
theorem wayLt_no {x y : Int × Path} (h : wayLt x y = false) : y.1 ≤ x.1 := by
  by_cases e : x.1 = y.1
  · omega
  · rw [wayLt_ne e] at h
    have := of_decide_eq_false h
    omega
/-- the first of the least -/
def minW : List (Int × Path) → Way
  | [] => none
  | y :: ys => some (ys.foldl (fun a y => if wayLt y a then y else a) y)
theorem minD_way : ∀ (ys : List (Int × Path)) (y : Int × Path), PySem.W.minD (someD y) (ys.map someD) = someD (ys.foldl (fun a y => if wayLt y a then y else a) y)
  | [], _ => rfl
  | z :: ys, y => by
    have e : PySem.W.minD (someD y) ((z :: ys).map someD) = PySem.W.minD (someD (if wayLt z y then z else y)) (ys.map someD) := by
      unfold PySem.W.minD
      rw [List.map_cons, List.foldl_cons]
      congr 1
      show (if wayLt z y = true then someD z else someD y) = _
      split <;> rfl
    rw [e, minD_way ys]
    rfl
/-! ### the pass -/
def Ent.isW : Ent → Bool
  | .wr .. => true
  | .qu .. => false
def Ent.rs : Ent → List Str
  | .wr _ rs _ _ => rs
  | .qu _ cs => cs
def Ent.ws : Ent → List Str
  | .wr _ _ ws _ => ws
  | .qu .. => []
def Ent.pr : Ent → Option Int
  | .wr _ _ _ pr => pr
  | .qu .. => none
/-- the way past a write of this price -/
def past (pr : Option Int) : Way → Way
  | some (k, p) => match pr with
    | some i => some (k + i, p)
    | none => none
  | none => none
def blocked (e : Ent) (o : Str → Way) : Str → Way := fun c => if c ∈ e.ws then past e.pr (o c) else o c
/-- the better of a reading and the way past the reader -/
def better (x : Int × Path) : Way → Way
  | none => some x
  | some y => if wayLt x y then some x else some y
def readers (e : Ent) (way : Way) (o : Str → Way) : Str → Way := fun c => if c ∈ e.rs then
  match way with
  | none => o c
  | some (k, p) => better (k, (e.id, c) :: p) (o c) else o c
def wayFrom (o : Str → Way) (cs : List Str) : Way := minW (cs.filterMap o)
def endW : Str → Way := fun c => some (0, [("", c)])
def stepB (e : Ent) (o : Str → Way) : Str → Way := match e with
  | .wr .. => readers e (wayFrom o e.ws) (blocked e o)
  | .qu .. => readers e (some (0, [])) o
def onB : List Ent → Str → Way
  | [] => endW
  | e :: rest => stepB e (onB rest)
/-- the writes' ways, the last write first -/
def waysB : List Ent → List (Str × Way)
  | [] => []
  | e :: rest => waysB rest ++ (if e.isW then [(e.id, wayFrom (onB rest) e.ws)] else [])
theorem waysB_ids : ∀ es : List Ent, (waysB es).map (·.1) = ((es.filter Ent.isW).map Ent.id).reverse
  | [] => rfl
  | e :: rest => by
    have ih := waysB_ids rest
    unfold waysB
    rw [List.map_append, ih, List.filter_cons]
    cases e.isW <;> simp
/-! ### costs alone -/
abbrev Cost := Option Int
/-- x is at most y and s more -/
def leC (s : Int) (x y : Cost) : Prop := ∀ b, y = some b → ∃ a, x = some a ∧ a ≤ b + s
theorem leC.refl {s : Int} (h : 0 ≤ s) (x : Cost) : leC s x x := fun b e => ⟨b, e, by omega⟩
def costW : Way → Cost := Option.map (·.1)
theorem cost_past {s : Int} {pr : Option Int} {x y : Way} (h : leC s (costW x) (costW y)) : leC s (costW (past pr x)) (costW (past pr y)) := by
  intro b e
  match y, pr, e with
  | some (k, p), some i, e =>
    obtain ⟨a, ha, hab⟩ := h k rfl
    have e : k + i = b := Option.some.inj e
    match x, ha with
    | some (k', p'), ha =>
      have ha : k' = a := Option.some.inj ha
      exact ⟨k' + i, rfl, by omega⟩
/-- past and its own -/
theorem cost_past_self {i : Int} (x : Way) : leC i (costW (past (some i) x)) (costW x) := by
  intro b e
  match x, e with
  | some (k, p), e =>
    have e : k = b := Option.some.inj e
    exact ⟨k + i, rfl, by omega⟩
theorem cost_better (x : Int × Path) (y : Way) : costW (better x y) = match costW y with | none => some x.1 | some b => some (min x.1 b) := by
  match y with
  | none => rfl
  | some y =>
    show costW (if wayLt x y then some x else some y) = some (min x.1 y.1)
    cases h : wayLt x y with
    | true =>
      have := wayLt_yes h
      show some x.1 = _
      rw [Int.min_eq_left this]
    | false =>
      have := wayLt_no h
      show some y.1 = _
      rw [Int.min_eq_right this]
theorem le_better {s : Int} {a b : Int} {p q : Path} {x y : Way} (h1 : a ≤ b + s) (h2 : leC s (costW x) (costW y)) : leC s (costW (better (a, p) x)) (costW (better (b, q) y)) := by
  rw [cost_better, cost_better]
  intro c e
  cases hy : costW y with
  | none =>
    rw [hy] at e
    have e : b = c := Option.some.inj e
    cases hx : costW x with
    | none => exact ⟨a, rfl, by omega⟩
    | some k => exact ⟨min a k, rfl, by omega⟩
  | some j =>
    obtain ⟨k, hk, hkj⟩ := h2 j hy
    rw [hy] at e
    have e : min b j = c := Option.some.inj e
    rw [hk]
    exact ⟨min a k, rfl, by omega⟩
/-- a further reading never makes it dearer -/
theorem better_le {s : Int} (hs : 0 ≤ s) (x : Int × Path) {y z : Way} (h : leC s (costW y) (costW z)) : leC s (costW (better x y)) (costW z) := by
  intro b e
  obtain ⟨a, ha, hab⟩ := h b e
  rw [cost_better, ha]
  exact ⟨min x.1 a, rfl, by omega⟩
theorem fold_least : ∀ (ys : List (Int × Path)) (y : Int × Path), (ys.foldl (fun a y => if wayLt y a then y else a) y).1 ≤ y.1 ∧ (∀ z ∈ ys, (ys.foldl (fun a y => if wayLt y a then y else a) y).1 ≤ z.1) ∧ (ys.foldl (fun a y => if wayLt y a then y else a) y ∈ y :: ys)
  | [], y => ⟨Int.le_refl _, by simp, by simp⟩
  | z :: ys, y => by
    obtain ⟨h1, h2, h3⟩ := fold_least ys (if wayLt z y then z else y)
    rw [List.foldl_cons]
    have lz : (if wayLt z y then z else y).1 ≤ z.1 ∧ (if wayLt z y then z else y).1 ≤ y.1 := by
      cases h : wayLt z y with
      | true => exact ⟨Int.le_refl _, wayLt_yes h⟩
      | false => exact ⟨wayLt_no h, Int.le_refl _⟩
    refine ⟨by omega, fun u hu => ?_, ?_⟩
    · rcases List.mem_cons.mp hu with e | e
      · rw [e]; omega
      · exact h2 u e
    · rcases List.mem_cons.mp h3 with e | e
      · rw [e]
        cases wayLt z y <;> simp
      · exact List.mem_cons_of_mem _ (List.mem_cons_of_mem _ e)
/-- the least is there, and is the least -/
theorem minW_iff (l : List (Int × Path)) : (l = [] → minW l = none) ∧ (l ≠ [] → ∃ m, minW l = some m ∧ m ∈ l ∧ ∀ z ∈ l, m.1 ≤ z.1) := by
  cases l with
  | nil => exact ⟨fun _ => rfl, fun h => absurd rfl h⟩
  | cons y ys =>
    obtain ⟨h1, h2, h3⟩ := fold_least ys y
    refine ⟨(fun h => by cases h), fun _ => ⟨_, rfl, h3, fun z hz => ?_⟩⟩
    rcases List.mem_cons.mp hz with e | e
    · rw [e]; exact h1
    · exact h2 z e
theorem le_from {s : Int} {o o' : Str → Way} {cs : List Str} (h : ∀ c, leC s (costW (o c)) (costW (o' c))) : leC s (costW (wayFrom o cs)) (costW (wayFrom o' cs)) := by
  intro b e
  have hne : cs.filterMap o' ≠ [] := fun z => by
    have q := (minW_iff (cs.filterMap o')).1 z
    unfold wayFrom at e
    rw [q] at e
    cases e
  obtain ⟨m, hm, hmem, _⟩ := (minW_iff (cs.filterMap o')).2 hne
  unfold wayFrom at e
  rw [hm] at e
  have e : m.1 = b := Option.some.inj e
  obtain ⟨c, hc, hoc⟩ := List.mem_filterMap.mp hmem
  obtain ⟨a, ha, hab⟩ := h c m.1 (by rw [hoc]; rfl)
  obtain ⟨w, hw, rfl⟩ : ∃ w, o c = some w ∧ w.1 = a := by
    cases ho : o c with
    | none => rw [ho] at ha; cases ha
    | some w => rw [ho] at ha; exact ⟨w, rfl, Option.some.inj ha⟩
  have hin : w ∈ cs.filterMap o := List.mem_filterMap.mpr ⟨c, hc, hw⟩
  obtain ⟨m', hm', _, hl⟩ := (minW_iff (cs.filterMap o)).2 (fun z => by rw [z] at hin; cases hin)
  refine ⟨m'.1, by unfold wayFrom; rw [hm']; rfl, ?_⟩
  have := hl w hin
  omega
/-- cheaper ways on make cheaper ways -/
theorem le_step {s : Int} (hs : 0 ≤ s) (e : Ent) {o o' : Str → Way} (h : ∀ c, leC s (costW (o c)) (costW (o' c))) : ∀ c, leC s (costW (stepB e o c)) (costW (stepB e o' c)) := by
  have reads : ∀ (w w' : Way) (u u' : Str → Way), leC s (costW w) (costW w') → (∀ c, leC s (costW (u c)) (costW (u' c))) → ∀ c, leC s (costW (readers e w u c)) (costW (readers e w' u' c)) := by
    intro w w' u u' hw hu c
    unfold readers
    by_cases hc : c ∈ e.rs
    · rw [if_pos hc, if_pos hc]
      match w', w, hw with
      | none, none, _ => exact hu c
      | none, some (k, p), _ => exact better_le hs _ (hu c)
      | some (k', p'), some (k, p), hw =>
        obtain ⟨a, ha, hab⟩ := hw k' rfl
        have ha : k = a := Option.some.inj ha
        exact le_better (by omega) (hu c)
      | some (k', p'), none, hw =>
        obtain ⟨a, ha, _⟩ := hw k' rfl
        cases ha
    · rw [if_neg hc, if_neg hc]
      exact hu c
  match e with
  | .wr id rs ws pr =>
    refine reads _ _ _ _ (le_from h) fun c => ?_
    unfold blocked
    by_cases hc : c ∈ (Ent.wr id rs ws pr).ws
    · rw [if_pos hc, if_pos hc]
      exact cost_past (h c)
    · rw [if_neg hc, if_neg hc]
      exact h c
  | .qu id cs => exact reads (some (0, [])) (some (0, [])) o o' (leC.refl hs _) h
theorem le_pre {s : Int} (hs : 0 ≤ s) {es es' : List Ent} (h : ∀ c, leC s (costW (onB es c)) (costW (onB es' c))) : ∀ pre : List Ent, ∀ c, leC s (costW (onB (pre ++ es) c)) (costW (onB (pre ++ es') c))
  | [] => h
  | e :: pre => le_step hs e (le_pre hs h pre)
/-! ### the costs of the writes, in log order -/
def costsL : List Ent → List (Str × Cost)
  | [] => []
  | e :: rest => (if e.isW then [(e.id, costW (wayFrom (onB rest) e.ws))] else []) ++ costsL rest
theorem costsL_ways : ∀ es : List Ent, costsL es = ((waysB es).map fun x => (x.1, costW x.2)).reverse
  | [] => rfl
  | e :: rest => by
    have ih := costsL_ways rest
    unfold costsL waysB
    rw [ih, List.map_append, List.reverse_append]
    cases e.isW <;> simp
theorem costsL_names : ∀ es : List Ent, (costsL es).map (·.1) = (es.filter Ent.isW).map Ent.id
  | [] => rfl
  | e :: rest => by
    have ih := costsL_names rest
    unfold costsL
    rw [List.map_append, ih, List.filter_cons]
    cases e.isW <;> simp
/-- after's costs are before's, or lower by no more than s: what _law_rises asks -/
def rises (before after : List (Str × Cost)) (s : Int) : Prop := ∀ n x y, (n, x) ∈ before → (n, y) ∈ after → leC s x y
theorem costs_pre {s : Int} (hs : 0 ≤ s) {es es' : List Ent} (h : ∀ c, leC s (costW (onB es c)) (costW (onB es' c))) (own : rises (costsL es) (costsL es') s) : ∀ pre : List Ent, ((pre ++ es).map Ent.id).Nodup → ((pre ++ es').map Ent.id).Nodup → rises (costsL (pre ++ es)) (costsL (pre ++ es')) s
  | [], _, _ => own
  | e :: pre, nd, nd' => by
    have nd2 := List.nodup_cons.mp nd
    have nd2' := List.nodup_cons.mp nd'
    have ih := costs_pre hs h own pre nd2.2 nd2'.2
    have names : ∀ (l : List Ent) n x, (n, x) ∈ costsL l → n ∈ l.map Ent.id := fun l n x hx => by
      have : n ∈ (costsL l).map (·.1) := List.mem_map.mpr ⟨_, hx, rfl⟩
      rw [costsL_names] at this
      obtain ⟨u, hu, rfl⟩ := List.mem_map.mp this
      exact List.mem_map.mpr ⟨u, (List.mem_filter.mp hu).1, rfl⟩
    intro n x y hx hy
    have hx : (n, x) ∈ (if e.isW then [(e.id, costW (wayFrom (onB (pre ++ es)) e.ws))] else []) ++ costsL (pre ++ es) := hx
    have hy : (n, y) ∈ (if e.isW then [(e.id, costW (wayFrom (onB (pre ++ es')) e.ws))] else []) ++ costsL (pre ++ es') := hy
    rcases List.mem_append.mp hx with hx | hx
    · cases hw : e.isW with
      | false => rw [hw] at hx; cases hx
      | true =>
        rw [hw] at hx hy
        simp only [if_true, List.mem_singleton, Prod.mk.injEq] at hx
        rcases List.mem_append.mp hy with hy | hy
        · simp only [if_true, List.mem_singleton, Prod.mk.injEq] at hy
          rw [hx.2, hy.2]
          exact le_from (le_pre hs h pre)
        · exact absurd (by rw [← hx.1]; exact names _ _ _ hy) nd2'.1
    · rcases List.mem_append.mp hy with hy | hy
      · cases hw : e.isW with
        | false => rw [hw] at hy; cases hy
        | true =>
          rw [hw] at hy
          simp only [if_true, List.mem_singleton, Prod.mk.injEq] at hy
          exact absurd (by rw [← hy.1]; exact names _ _ _ hx) nd2.1
      · exact ih n x y hx hy
theorem rises_self {s : Int} (hs : 0 ≤ s) {es : List Ent} (nd : (es.map Ent.id).Nodup) : rises (costsL es) (costsL es) s := by
  intro n x y hx hy
  have names : ((costsL es).map (·.1)).Nodup := by
    rw [costsL_names]
    exact nd.sublist (List.filter_sublist.map _)
  have e : x = y := by
    clear nd hs
    generalize costsL es = l at names hx hy
    induction l with
    | nil => cases hx
    | cons z l ih =>
      rw [List.map_cons] at names
      have nn := List.nodup_cons.mp names
      rcases List.mem_cons.mp hx with a | a <;> rcases List.mem_cons.mp hy with b | b
      · rw [← a] at b
        exact (Prod.mk.inj b).2.symm
      · exact absurd (List.mem_map.mpr ⟨_, b, by rw [← a]⟩) nn.1
      · exact absurd (List.mem_map.mpr ⟨_, a, by rw [← b]⟩) nn.1
      · exact ih nn.2 a b
  rw [e]
  exact leC.refl hs y
end NV
/-! D10g -/
set_option Elab.async false
set_option linter.all false
set_option maxRecDepth 100000
set_option maxHeartbeats 400000
namespace NV
open PySem PySem.Spec PyProof.Rows L2
open C8 (pss_cut)
theorem tup_kind {H : Hp} {a b : Addr} {xs : List V} {o : HO} (h : H a = some (.tup xs)) (h' : H b = some o) (n : ∀ ys, o ≠ .tup ys) : a ≠ b := fun e => by
  rw [e, h'] at h
  exact n xs (Option.some.inj h)
/-- pick of [1, 1, 2, 3] -/
theorem pick_most {j : Nat} {v : V} (h : ([V.int 1, V.int 1, V.int 2, V.int 3] : List V)[j]? = some v) : ∃ m : Nat, v = .int m ∧ 1 ≤ m ∧ m ≤ 3 := by
  match j, h with
  | 0, h => exact ⟨1, (Option.some.inj h).symm, by decide, by decide⟩
  | 1, h => exact ⟨1, (Option.some.inj h).symm, by decide, by decide⟩
  | 2, h => exact ⟨2, (Option.some.inj h).symm, by decide, by decide⟩
  | 3, h => exact ⟨3, (Option.some.inj h).symm, by decide, by decide⟩
  | j + 4, h => simp at h
theorem strs_rp {ex : List Addr} {H : Hp} {p : Addr} {zs : List Str} (hp : p ∉ ex) (h : H p = some (.tup (zs.map V.str))) : Rp ex H (.tuple (zs.map .str)) (.ref p) := ⟨p, _, rfl, hp, h, RpAll.strs zs⟩
end NV
/-! D11g -/
set_option Elab.async false
set_option linter.all false
set_option maxRecDepth 100000
set_option maxHeartbeats 400000
namespace NV
open PySem PySem.Spec PyProof.Rows L2
open C8 (pss_cut)
theorem SqL.upd_new {K : PySem.W.Frag} {H : Hp} {a C : Addr} {xs : List V} {o : HO} (h : SqL K H a xs) (nC : H C = none) : SqL K (upd H C o) a xs := Kp.seqL (ex := []) (Kp.laid nC) (by simp) h
theorem SqL.upd_two {K : PySem.W.Frag} {H : Hp} {a C : Addr} {xs : List V} {o u : HO} (h : SqL K H a xs) (nC : H C = none) : SqL K (upd (upd H C o) C u) a xs := by
  rw [upd_upd]; exact SqL.upd_new h nC
/-- a comprehension over a list whose test and element change nothing -/
theorem lc_pureL {K : PySem.W.Frag} {tt : TT} {te : TE} {i : Nat} {σ : L2.St} {C a : Addr} {xs : List V} {H1 : Hp} {Qd : Hp → Prop} (p : V → Bool) (f : V → V) (hS : SqL K H1 a xs) (nC : H1 C = none) (hz : xs.length < 1000)
    (htt : ∀ (x : V) (H : Hp) (Q : Bool → Hp → Prop), x ∈ xs → SqL K H a xs → Q (p x) H → tt ((wipe σ [i]).set i (some x)) H Q)
    (hte : ∀ (x : V) (H : Hp) (Q : V → Hp → Prop), x ∈ xs → SqL K H a xs → p x = true → Q (f x) H → te ((wipe σ [i]).set i (some x)) H Q) (hd : Qd (upd H1 C (.lst ((xs.filter p).map f)))) :
    ∃ W : Nat → Nat → Hp → Prop, (∃ m, W 0 m (upd H1 C (.lst []))) ∧ ∀ i' m H, W i' m H →
      ((Itl K a).stop i' H ∧ Qd H) ∨ ((Itl K a).go i' H ∧ ∃ Nx : Hp → Prop, (∀ H', Nx H' → ∃ m', m' < m ∧ W (i' + 1) m' H') ∧ ∀ x H', (Itl K a).yld i' H x H' → gName i x (wipe σ [i]) H' fun σ2 H2 => wipe σ2 [i] = wipe σ [i] ∧ tt σ2 H2 fun b H3 =>
        if b = true then te σ2 H3 fun y H4 => ∃ acc, H4 C = some (.lst acc) ∧ acc.length < sizeLine ∧ Nx (upd H4 C (.lst (acc ++ [y]))) else Nx H3) := by
  refine lc_list (K := K) (a := a) (xs := xs) (fun j H' => H' = upd H1 C (.lst (((xs.take j).filter p).map f))) rfl (fun j H' _ e => by rw [e]; exact SqL.upd_new hS nC) (fun j x H' hx e => ?_) (fun H' e => by rw [e, List.take_length]; exact hd)
  subst e
  have hm : x ∈ xs := List.mem_of_getElem? hx
  have htk : xs.take (j + 1) = xs.take j ++ [x] := by rw [List.take_add_one, hx]; rfl
  refine ⟨wipe_again, ?_⟩
  refine htt x _ _ hm (SqL.upd_new hS nC) ?_
  cases hp : p x with
  | true =>
    change te ((wipe σ [i]).set i (some x)) _ _
    refine hte x _ _ hm (SqL.upd_new hS nC) hp ⟨_, upd_same, ?_, ?_⟩
    · have h1 : ((xs.take j).filter p).length ≤ (xs.take j).length := List.length_filter_le _ _
      rw [List.length_take] at h1
      rw [List.length_map]
      exact small1000 (by omega)
    · rw [upd_upd, htk, List.filter_append, List.map_append, List.filter_cons_of_pos hp]
      rfl
  | false =>
    change upd H1 C _ = upd H1 C _
    rw [htk, List.filter_append, List.filter_cons_of_neg (by rw [hp]; exact Bool.false_ne_true)]
    simp
theorem cut_to (xs : List V) (k : Nat) : cutV xs none (some (k : Int)) = xs.take k := by
  unfold cutV
  rw [HT.sIx_none, HT.sIx_nat]
  rw [List.drop_zero, Nat.sub_zero, ← List.take_eq_take_min]
theorem filter_all {α : Type} (l : List α) : l.filter (fun _ => true) = l := by simp
def iAbs : V → V
  | .int i => .int (if i < 0 then -i else i)
  | v => v
def iBig : V → Bool
  | .int i => decide ((10 : Int) ^ 18 ≤ i)
  | _ => false
end NV
/-! SetG -/
set_option Elab.async false
set_option linter.all false
set_option maxRecDepth 100000
set_option maxHeartbeats 600000
/-! sets whose members are of any kind of key, with what their walk needs -/
namespace NV
open PySem PySem.Spec PyProof.Rows L2
section
variable {P : Program} {w : World} {κ : Type} [DecidableEq κ] (knd : PySem.KeyKind P w κ) (key : Value → κ)
/-- key reads a member off a value -/
def KeyFn : Prop := ∀ k v, knd.is k v = true → key v = k
def mem (es : Array (Int × Value)) : List κ := es.toList.map fun e => key e.2
/-- the set at a: S its members, n their number -/
def SetG (h : Heap) (a : Addr) (S : κ → Bool) (n : Nat) : Prop :=
  ∃ o es ep t, (h.get? a = some o ∧ o.ExactSet ∧ o.data = .set es ep t) ∧ (ElemsOf knd es.toList ∧ (mem key es).Nodup ∧ ∀ k, S k = true ↔ k ∈ mem key es) ∧
    (es.size < scanBound ∧ t.fits es.size = true ∧ es.size = n) ∧ Ris t.place.toList ∧ (w.params.followText "set-order" = true ∨ t.led = true)
end
section
variable {P : Program} {w : World} {κ : Type} [DecidableEq κ] {knd : PySem.KeyKind P w κ} {key : Value → κ} {h h' : Heap} {a : Addr} {S : κ → Bool} {n : Nat}
theorem SetG.move (R : SetG knd key h a S n) (k : ∀ o, h.get? a = some o → h'.get? a = some o) : SetG knd key h' a S n :=
  let ⟨o, es, ep, t, ⟨ho, r1⟩, r2⟩ := R
  ⟨o, es, ep, t, ⟨k o ho, r1⟩, r2⟩
theorem SetG.sameS {S' : κ → Bool} (R : SetG knd key h a S n) (e : ∀ k, S' k = S k) : SetG knd key h a S' n := by
  rw [show S' = S from funext e]
  exact R
theorem is_iff (hk : KeyFn knd key) {l : List (Int × Value)} (g : ElemsOf knd l) {e : Int × Value} (he : e ∈ l) (k : κ) : knd.is k e.2 = true ↔ key e.2 = k := by
  obtain ⟨⟨k0, h0, _⟩, _⟩ := g e he
  constructor
  · exact hk k e.2
  · intro q
    rw [hk k0 e.2 h0] at q
    rw [← q]
    exact h0
theorem mem_iff (hk : KeyFn knd key) {es : Array (Int × Value)} (g : ElemsOf knd es.toList) (k : κ) : k ∈ mem key es ↔ ∃ e ∈ es.toList, knd.is k e.2 = true := by
  unfold mem
  rw [List.mem_map]
  exact ⟨fun ⟨e, he, q⟩ => ⟨e, he, (is_iff hk g he k).mpr q⟩, fun ⟨e, he, q⟩ => ⟨e, he, (is_iff hk g he k).mp q⟩⟩
theorem SetG.plain (hk : KeyFn knd key) (R : SetG knd key h a S n) : h.SetOf knd a S n :=
  let ⟨o, es, ep, t, ⟨ho, hx, hd⟩, ⟨g, _, hm⟩, ⟨hb, hf, hn⟩, _⟩ := R
  ⟨o, es, ep, t, ho, hx, hd, g, fun k => (hm k).trans (mem_iff hk g k), hb, hf, hn⟩
/-- the empty set just laid -/
theorem SetG.start {o : Obj} (ho : h.get? a = some o) (e : o = { cls := .type "set", dict := none, data := .set #[] 0 (.fresh 0 0 (!w.params.followText "set-order")) }) : SetG knd key h a (fun _ => false) 0 := by
  subst e
  refine ⟨_, #[], 0, _, ⟨ho, ⟨rfl, rfl, rfl⟩, rfl⟩, ⟨fun e he => by simp at he, by simp [mem], fun k => by simp [mem]⟩, ⟨by decide, by rfl, rfl⟩, List.Pairwise.nil, ?_⟩
  cases hq : w.params.followText "set-order"
  · exact .inr rfl
  · exact .inl rfl
end
section
variable {P : Program} {w : World} {κ : Type} [DecidableEq κ] {knd : PySem.KeyKind P w κ} {key : Value → κ} {A : Around} {E : Value → Shared → Prop} {s : Shared} {a : Addr} {S : κ → Bool} {n : Nat}
/-- what is stored, once the member has its place; the table may be laid anew -/
theorem setG_tail {g : Bool → Sem Unit} (hg : ∀ b, ∃ r : Bool, g b = if r then rule "set.scan.the-table-gave-way" else pure ()) {o : Obj} {es es1 : Array (Int × Value)} {ep : Nat} {t t2 : SetTable} {S' : κ → Bool} {wd : Bool} {R : Option Bool → Shared → Prop}
    (ho : s.heap.get? a = some o) (hx : o.ExactSet) (hd : o.data = .set es ep t) (g1 : ElemsOf knd es1.toList) (nd : (mem key es1).Nodup) (hm : ∀ k, S' k = true ↔ k ∈ mem key es1)
    (hb : es1.size < scanBound) (hf : t2.fits es1.size = true) (hr : Ris t2.place.toList) (hl : w.params.followText "set-order" = true ∨ t2.led = true)
    (hR : ∀ h', Heap.SameBut a s.heap h' → SetG knd key h' a S' es1.size → R (some true) { s with heap := h' }) :
    wpAny (model P w) A (do
        storeSet a es1 t2
        if (!wd && t2.tooFull) = true then do
            g (relayAll t2 es1 (SetTable.grown es1.size)).2.2
            storeSet a (relayAll t2 es1 (SetTable.grown es1.size)).1 (relayAll t2 es1 (SetTable.grown es1.size)).2.1
            pure (some true)
          else pure (some true)) R E s := by
  have go : ∀ b {s₁ : Shared} {Q : Unit → Shared → Prop}, Q () s₁ → wpAny (model P w) A (g b) Q E s₁ := fun b s₁ Q q => by
    obtain ⟨r, e⟩ := hg b
    rw [e]
    cases r
    · exact wpAny_pure q
    · exact wpAny_rule q
  have first := store_at (es' := es1) (t' := t2) ho hd
  have same1 := Heap.SameBut.update s.heap a (Obj.putSet es1 t2)
  refine wpAny_bind (wpAny_storeSet_of ho hd ?_ (fits_of_scanBound hb))
  by_cases c : (!wd && t2.tooFull) = true
  · rw [if_pos c]
    have pm := relayAll_perm t2 es1 (SetTable.grown es1.size)
    have hf3 := relayAll_fits t2 es1 (SetTable.grown es1.size)
    have hr3 := relayAll_ris t2 es1 (SetTable.grown es1.size)
    have hl3 := relayAll_led t2 es1 (SetTable.grown es1.size)
    generalize relayAll t2 es1 (SetTable.grown es1.size) = Z at pm hf3 hr3 hl3 ⊢
    obtain ⟨es2, t3, gave⟩ := Z
    dsimp only at pm hf3 hr3 hl3 ⊢
    have hz : es2.size = es1.size := by
      have q := pm.length_eq
      simpa using q
    have hb2 : es2.size < scanBound := by rw [hz]; exact hb
    have pk : (mem key es2).Perm (mem key es1) := List.Perm.map (fun e : Int × Value => key e.2) pm
    have led3 : w.params.followText "set-order" = true ∨ t3.led = true := by rw [hl3]; exact hl
    refine wpAny_bind (go _ (wpAny_bind (wpAny_storeSet_of first rfl (wpAny_pure (hR _ (same1.trans (Heap.SameBut.update _ a _)) ?_)) (fits_of_scanBound hb2))))
    have last := store_at (es' := es2) (t' := t3) first rfl
    exact ⟨_, es2, _, t3, ⟨last, hx, rfl⟩, ⟨g1.perm pm, pk.nodup_iff.mpr nd, fun k => (hm k).trans pk.mem_iff.symm⟩, ⟨hb2, hf3, hz⟩, hr3, led3⟩
  · rw [if_neg c]
    exact wpAny_pure (hR _ same1 ⟨_, _, _, _, ⟨first, hx, rfl⟩, ⟨g1, nd, hm⟩, ⟨hb, hf, rfl⟩, hr, hl⟩)
theorem setG_add_hashed (hk : KeyFn knd key) {k : κ} {x : Value} {Q : Bool → Shared → Prop} (hx : knd.is k x = true) (hsc : x.scannable = true) (R : SetG knd key s.heap a S n) (room : n + 1 < scanBound)
    (hQ : ∀ h', Heap.SameBut a s.heap h' → SetG knd key h' a (fun j => S j || decide (j = k)) (if S k = true then n else n + 1) → Q (!S k) { s with heap := h' }) :
    wpAny (model P w) A (setAddHashed a x (knd.hash k)) Q E s := by
  obtain ⟨o, es, ep, t, ⟨ho, hex, hd⟩, ⟨g, nd, hm⟩, ⟨hb, hf, hn⟩, hr, hl⟩ := R
  unfold setAddHashed setAddHashedIn
  refine wpAny_holding (wpAny_bind (wpAny_setState_of ho hd hf ?_))
  dsimp only
  rw [byScan_of hsc hb g]
  simp only [↓reduceIte]
  unfold setAddByScan
  refine wpAny_bind (wpAny_bind (wpAny_rule (wpAny_bind (wpAny_setScan_of hx ho hd hf g ?_))))
  cases hfi : es.toList.findIdx? (fun e => knd.is k e.2) with
  | some j =>
    obtain ⟨hj, pj, _⟩ := List.findIdx?_eq_some_iff_getElem.mp hfi
    have there : S k = true := (hm k).mpr ((mem_iff hk g k).mpr ⟨_, List.getElem_mem hj, pj⟩)
    have q := hQ s.heap (Heap.SameBut.refl a s.heap) ⟨o, es, ep, t, ⟨ho, hex, hd⟩, ⟨g, nd, fun i => ?_⟩, ⟨hb, hf, by rw [if_pos there]; exact hn⟩, hr, hl⟩
    · rw [there] at q
      exact wpAny_pure (wpAny_pure q)
    · rw [← hm i, Bool.or_eq_true, decide_eq_true_eq]
      refine ⟨fun z => z.elim id fun e => ?_, Or.inl⟩
      rw [e]; exact there
  | none =>
    have hnk : k ∉ mem key es := fun z => by
      obtain ⟨e, he, q⟩ := (mem_iff hk g k).mp z
      have c := List.findIdx?_eq_none_iff.mp hfi e he
      rw [q] at c
      cases c
    have gone : S k = false := Bool.eq_false_iff.mpr fun q => hnk ((hm k).mp q)
    dsimp only
    have pm := layNew_perm t es (knd.hash k) x
    have hf1 := layNew_fits t es (knd.hash k) x
    have hr1 := layNew_ris t es (knd.hash k) x hr
    have hl1 := layNew_led t es (knd.hash k) x
    generalize layNew t es (knd.hash k) x = Z at pm hf1 hr1 hl1 ⊢
    obtain ⟨es1, t1, wd, gave⟩ := Z
    dsimp only at pm hf1 hr1 hl1 ⊢
    rw [Array.toList_push] at pm
    have g1 : ElemsOf knd es1.toList := (g.push hx hsc).perm pm
    have pk : (mem key es1).Perm (k :: mem key es) := by
      have q := (pm.trans (List.perm_append_singleton _ _)).map fun e : Int × Value => key e.2
      rw [List.map_cons] at q
      rw [hk k x hx] at q
      exact q
    have nd1 : (mem key es1).Nodup := pk.nodup_iff.mpr (List.nodup_cons.mpr ⟨hnk, nd⟩)
    have m1 : ∀ i, (S i || decide (i = k)) = true ↔ i ∈ mem key es1 := fun i => by
      rw [pk.mem_iff, List.mem_cons, ← hm i, Bool.or_eq_true, decide_eq_true_eq]
      exact Or.comm
    have hz : es1.size = n + 1 := by
      have q := pm.length_eq
      simp only [List.length_append, List.length_singleton, Array.length_toList] at q
      omega
    have hb1 : es1.size < scanBound := by rw [hz]; exact room
    have hled : w.params.followText "set-order" = true ∨ t1.led = true := by
      rw [hl1]; exact hl
    have fin : ∀ h', Heap.SameBut a s.heap h' → SetG knd key h' a (fun j => S j || decide (j = k)) es1.size → Q true { s with heap := h' } := fun h' sb r => by
      rw [hz] at r
      have q := hQ h' sb (by rw [gone]; exact r)
      rw [gone] at q
      exact q
    have way : ∀ b : Bool, ∃ r : Bool, (match b with | true => rule "set.scan.the-table-gave-way" | false => pure () : Sem Unit) = if r then rule "set.scan.the-table-gave-way" else pure () := fun b => ⟨b, by cases b <;> rfl⟩
    refine wpAny_bind ?_
    have hgw : ∀ (b : Bool) {s₁ : Shared} {Q' : Unit → Shared → Prop}, Q' () s₁ → wpAny (model P w) A (match b with | true => rule "set.scan.the-table-gave-way" | false => pure ()) Q' E s₁ := fun b s₁ Q' q => by
      cases b
      · exact wpAny_pure q
      · exact wpAny_rule q
    refine hgw _ ?_
    split
    · refine wpAny_bind ?_
      rw [hashByValue_scannable 8 hsc]
      refine wpAny_pure (setG_tail way ho hex hd g1 nd1 m1 hb1 ?_ ?_ ?_ fun h' sb r => wpAny_pure (fin h' sb r))
      · first | exact hf1 | (split <;> first | exact hf1 | exact SetTable.fits_plain_off hf1)
      · first | exact hr1 | (split <;> exact hr1)
      · first | exact hled | (split <;> exact hled)
    · refine wpAny_bind (wpAny_pure ?_)
      simp only [↓reduceIte]
      exact setG_tail way ho hex hd g1 nd1 m1 hb1 hf1 hr1 hled fun h' sb r => wpAny_pure (fin h' sb r)
end
end NV
/-! SetG2 -/
set_option Elab.async false
set_option linter.all false
set_option maxRecDepth 100000
set_option maxHeartbeats 3200000
/-! set(xs) of a list or a tuple of keys; sorted of a set of texts -/
namespace NV
open PySem PySem.Spec PyProof.Rows L2
abbrev blank (w : World) : Obj := { cls := .type "set", dict := none, data := .set #[] 0 (.fresh 0 0 (!w.params.followText "set-order")) }
section
variable {P : Program} {w : World} {κ : Type} [DecidableEq κ] {knd : PySem.KeyKind P w κ} {key : Value → κ} {A : Around} {E : Value → Shared → Prop} {s : Shared}
/-- the items go into the set one by one -/
theorem fill (hk : KeyFn knd key) {I : Addr} {fp wr : List Addr} {G : Array GenState → Array GenState → Prop} {n : Nat} {Pv : Nat → Value → Prop} {St : Nat → Shared → Prop} {R : Result → Shared → Prop}
    (W : WalksS P w A.in1 I fp wr G n Pv St) (S : Addr) (hSf : S ∉ fp) (ks : List κ) (hn : n = ks.length) (hb : ks.length + 1 < scanBound) (hval : ∀ i v, Pv i v → ∃ k, ks[i]? = some k ∧ knd.is k v = true ∧ v.scannable = true)
    (hR : ∀ s0 s' c, Moved (S :: wr) G s0 s' → s0 = s → c ≤ n → SetG knd key s'.heap S (fun j => decide (j ∈ ks)) c → R (.ok (.ret .none)) s') :
    ∀ (m i : Nat) (s1 : Shared), n - i = m → i ≤ n → St i s1 → (i = 0 ∧ s1 = s ∨ Moved (S :: wr) G s s1) → (∃ c, c ≤ i ∧ SetG knd key s1.heap S (fun j => decide (j ∈ ks.take i)) c) →
      codeAny (model P w) A (.builtin "set.update.loop" ⟨[.ref S, .ref I], []⟩) R s1 := by
  have hSw : S ∉ wr := fun h => hSf (W.sub _ h)
  have up : ∀ b ∈ wr, b ∈ S :: wr := fun b hb => List.mem_cons_of_mem _ hb
  have after : ∀ {i : Nat} {s1 s2 : Shared}, (i = 0 ∧ s1 = s ∨ Moved (S :: wr) G s s1) → Moved (S :: wr) G s1 s2 → Moved (S :: wr) G s s2 := fun h hm => by
    rcases h with ⟨_, rfl⟩ | h
    · exact hm
    · exact h.trans W.gtrans hm
  intro m
  induction m with
  | zero =>
    intro i s1 hm hi hst hmv ⟨c, hc, hS⟩
    have hin : i = n := by omega
    subst hin
    refine codeAny_builtin F.entry_set_update_loop ?_
    rw [Around.under_plainId F.plain_set_update_loop _]
    refine wpAny_bind (m := pyNext (.ref I)) (W.done s1 _ _ hst fun s2 hm2 => ?_)
    have et : ks.take i = ks := List.take_of_length_le (Nat.le_of_eq hn.symm)
    rw [et] at hS
    exact wpAny_pure (hR s s2 c (after hmv (hm2.mono up)) rfl hc (hS.move fun o e => hm2.heap S o hSw e))
  | succ m ih =>
    intro i s1 hm hi hst hmv ⟨c, hc, hS⟩
    have hlt : i < n := by omega
    refine codeAny_builtin F.entry_set_update_loop ?_
    rw [Around.under_plainId F.plain_set_update_loop _]
    refine wpAny_bind (m := pyNext (.ref I)) (W.item i s1 _ _ hlt hst fun v s2 hP hst2 hm2 => ?_)
    obtain ⟨k, hk1, hk2, hk3⟩ := hval i v hP
    have hS2 : SetG knd key s2.heap S (fun j => decide (j ∈ ks.take i)) c := hS.move fun o e => hm2.heap S o hSw e
    refine wpAny_bind (m := holding [v] (setAdd S v)) (wpAny_holding ?_)
    unfold setAdd
    refine wpAny_holding (wpAny_bind (knd.pyHash hk2 ?_))
    refine setG_add_hashed (s := { s2 with toks := s2.toks + 1 }) hk hk2 hk3 hS2 (by omega) fun h3 hsb hS3 => ?_
    have hS4 : SetG knd key h3 S (fun j => decide (j ∈ ks.take (i + 1))) (if decide (k ∈ ks.take i) = true then c else c + 1) := hS3.sameS fun j => by
      rw [List.take_add_one, hk1]
      simp [List.mem_append]
    have hle : (if decide (k ∈ ks.take i) = true then c else c + 1) ≤ i + 1 := by split <;> omega
    have oth : ∀ b o, b ≠ S → s2.heap.get? b = some o → h3.get? b = some o := fun b o hb e => (hsb.2 b hb).trans e
    refine wpAny_pure ⟨plainId_quiet F.plain_set_update_loop _, ih (i + 1) _ (by omega) hlt (W.frame _ s2 _ _ hst2 (Nat.le_succ _) fun b hb o e => oth b o (fun z => hSf (by rw [← z]; exact hb)) e) (.inr (after hmv ((hm2.mono up).then_heap (Nat.le_succ _) fun b o hb e => ?_))) ⟨_, hle, hS4⟩⟩
    exact oth b o (fun z => hb (by rw [z]; exact List.mem_cons_self)) e
end
end NV
/-! SetG3 -/
set_option Elab.async false
set_option linter.all false
set_option maxRecDepth 100000
set_option maxHeartbeats 3200000
namespace NV
open PySem PySem.Spec PyProof.Rows L2
section
variable {P : Program} {w : World} {κ : Type} [DecidableEq κ] {knd : PySem.KeyKind P w κ} {key : Value → κ} {A : Around} {E : Value → Shared → Prop} {s : Shared}

theorem call_set_Tuple (hk : KeyFn knd key) {l : Addr} {items : Array Value} (ks : List κ) {Q : Value → Shared → Prop} (hh : A.handled = none) (hl : s.heap.IsTuple l items) (hz : items.size = ks.length)
    (hval : ∀ (i : Nat) (v : Value), items[i]? = some v → ∃ k, ks[i]? = some k ∧ knd.is k v = true ∧ v.scannable = true) (hb : ks.length + 1 < scanBound)
    (h : ∀ (h' : Heap) (tk c : Nat), SetG knd key h' s.heap.objs.size (fun j => decide (j ∈ ks)) c → (∀ b o, s.heap.get? b = some o → h'.get? b = some o) → Q (.ref s.heap.objs.size) { s with heap := h', toks := tk }) :
    wpAny (model P w) A (call (.type "set") [.ref l]) Q E s := by
  obtain ⟨c0, tl, hmro⟩ := F.called_set.mro
  have hmade := F.called_set.made
  have hsub := F.called_set.sub
  refine wpAny_call (codeAny_of_tree ?_)
  show wpAny _ _ (callAny (.type "set") _) _ _ _
  refine wpAny_pure ⟨Code.quiet_builtin _ (by decide +kernel), codeAny_builtin F.entry_type_call ?_⟩
  rw [Around.under_plain (weight_type_call_type "set" [.ref l] []) rfl]
  have h1 := F.called_set.notType
  have h2 := F.called_set.canCreate
  have hct := F.typeCall_set_1 (.ref l)
  repeat (any_goals (first | assumption | wp_step))
  generalize hn0 : ({ s with heap := s.heap.push (blank w) } : Shared) = s0
  have e0 : s0.heap = s.heap.push (blank w) := by rw [← hn0]
  refine codeAny_mono (code_set_led1 (.ref l) (E := E) (Q₁ := fun obj s₁ => obj = .ref s.heap.objs.size ∧ s₁ = s0) ⟨rfl, hn0⟩) fun r s₁ hr => ?_
  match r, hr with
  | .error e, hr => exact hr
  | .ok .next, hr => exact hr.elim
  | .ok .brk, hr => exact hr.elim
  | .ok .cont, hr => exact hr.elim
  | .ok (.ret obj), hr =>
    obtain ⟨rfl, rfl⟩ := hr
    have hS : s₁.heap.get? s.heap.objs.size = some (blank w) := by rw [e0]; exact Heap.get?_push_size _ rfl
    have hT : Shared.TypeIs s₁ (.ref s.heap.objs.size) "set" := ⟨_, hS, rfl⟩
    have hli := F.called_set.init.lookup
    have hbi := F.called_set.init.bind (.ref s.heap.objs.size)
    repeat (any_goals (first | assumption | wp_step))
    refine codeAny_mono (codeAny_call_builtin (R := wants (fun r s₂ => r = .none ∧ ∃ h' tk c, s₂ = { s with heap := h', toks := tk } ∧ SetG knd key h' s.heap.objs.size (fun j => decide (j ∈ ks)) c ∧
        (∀ b o, s.heap.get? b = some o → h'.get? b = some o)) E) F.called_set.init.plain F.entry_set_init (check_set_init_1 hT ?_)) fun r₂ s₂ hr₂ => ?_
    · have hl1 : s₁.heap.IsTuple l items := by rw [e0]; exact hl.push _
      have hlS : l < s.heap.objs.size := let ⟨_, ho, _⟩ := hl; Heap.lt_size ho
      have hsz : s₁.heap.objs.size = s.heap.objs.size + 1 := by rw [e0]; exact Heap.size_push ..
      obtain ⟨ol, hol, hcl, hrest⟩ := id hl1
      have hsls := F.sub_tuple_set
      have hslf := F.sub_tuple_frozenset
      have hne : (Value.type "tuple" == Value.type "dict") = false := by decide
      have hty : s₁.TypeIs (.ref l) "tuple" := hl1.typeIs
      unfold Builtin.«set.__init__» noKeywords Builtin.Frozenset.updateFrom
      generalize hPI : pyIter = PI
      wp_walk
      subst hPI
      refine wpAny_pyIter_tuple hl1 (wpAny_bind (wpAny_runValue ?_))
      generalize hn2 : ({ s₁ with heap := s₁.heap.push { cls := .type "tuple_iterator", data := .fields #[.ref l, .int 0 0] } } : Shared) = s3
      have e3 : s3.heap = s₁.heap.push { cls := .type "tuple_iterator", data := .fields #[.ref l, .int 0 0] } := by rw [← hn2]
      have k01 : ∀ b o, s.heap.get? b = some o → s₁.heap.get? b = some o := fun b o e => by rw [e0]; exact Heap.get?_push_of_some _ e
      have k13 : ∀ b o, s₁.heap.get? b = some o → s3.heap.get? b = some o := fun b o e => by rw [e3]; exact Heap.get?_push_of_some _ e
      have hneI : l ≠ s₁.heap.objs.size := fun z => by rw [z, hsz] at hlS; exact absurd hlS (Nat.not_lt.mpr (Nat.le_succ _))
      have hSf : s.heap.objs.size ∉ [s₁.heap.objs.size, l] := fun z => by
        rcases List.mem_cons.mp z with z | z
        · exact absurd (z.trans hsz) (Nat.ne_of_lt (Nat.lt_succ_self _))
        · rw [List.mem_singleton.mp z] at hlS
          exact Nat.lt_irrefl _ hlS
      have W := Walks.tuple (prog := P) (w := w) (A := A.in1.in1.in1) (by simp [hh]) s₁.heap.objs.size l hneI items
      refine fill (s := s3) hk W.toS s.heap.objs.size hSf ks hz hb hval (fun sx s' c' hm ex hcn hS' => ?_) (items.size - 0) 0 s3 rfl (Nat.zero_le _) ⟨⟨_, by rw [e3]; exact Heap.get?_push_size _ rfl, rfl, rfl⟩, by rw [e3]; exact hl1.push _⟩ (.inl ⟨rfl, rfl⟩) ⟨0, Nat.le_refl 0, SetG.sameS (SetG.start (k13 _ _ hS) rfl) fun k => by simp⟩
      subst ex
      obtain ⟨h', g2, d', tk', os'⟩ := s'
      have eg : g2 = s.gens := by
        have q := hm.gens
        rw [← hn2, ← hn0] at q
        exact q
      have ed : d' = s.drawn := by
        have q := hm.drawn
        rw [← hn2, ← hn0] at q
        exact q
      have eo : os' = s.os := by
        have q := hm.os
        rw [← hn2, ← hn0] at q
        exact q
      subst eg; subst ed; subst eo
      refine wpAny_pure ?_
      show wpAny _ _ (ret Value.none) _ _ _
      refine wpAny_pure ⟨rfl, h', tk', c', rfl, hS', fun b o e => ?_⟩
      have hb0 : b < s.heap.objs.size := Heap.lt_size e
      refine hm.heap b o (fun z => ?_) (k13 b o (k01 b o e))
      rcases List.mem_cons.mp z with z | z
      · exact Nat.ne_of_lt hb0 z
      · rw [List.mem_singleton.mp z, hsz] at hb0
        exact absurd hb0 (Nat.not_lt.mpr (Nat.le_succ _))
    · match r₂, hr₂ with
      | .error e, hr₂ => exact hr₂
      | .ok .next, hr₂ => exact hr₂.elim
      | .ok .brk, hr₂ => exact hr₂.elim
      | .ok .cont, hr₂ => exact hr₂.elim
      | .ok (.ret r), hr₂ =>
        obtain ⟨rfl, h', tk, c', rfl, hS', hk'⟩ := hr₂
        repeat (any_goals (first | assumption | wp_step))
        exact h _ _ _ hS' hk'
end
end NV
/-! SetG3L -/
set_option Elab.async false
set_option linter.all false
set_option maxRecDepth 100000
set_option maxHeartbeats 3200000
namespace NV
open PySem PySem.Spec PyProof.Rows L2
section
variable {P : Program} {w : World} {κ : Type} [DecidableEq κ] {knd : PySem.KeyKind P w κ} {key : Value → κ} {A : Around} {E : Value → Shared → Prop} {s : Shared}

theorem call_set_List (hk : KeyFn knd key) {l : Addr} {items : Array Value} (ks : List κ) {Q : Value → Shared → Prop} (hh : A.handled = none) (hl : s.heap.IsList l items) (hz : items.size = ks.length)
    (hval : ∀ (i : Nat) (v : Value), items[i]? = some v → ∃ k, ks[i]? = some k ∧ knd.is k v = true ∧ v.scannable = true) (hb : ks.length + 1 < scanBound)
    (h : ∀ (h' : Heap) (tk c : Nat), SetG knd key h' s.heap.objs.size (fun j => decide (j ∈ ks)) c → (∀ b o, s.heap.get? b = some o → h'.get? b = some o) → Q (.ref s.heap.objs.size) { s with heap := h', toks := tk }) :
    wpAny (model P w) A (call (.type "set") [.ref l]) Q E s := by
  obtain ⟨c0, tl, hmro⟩ := F.called_set.mro
  have hmade := F.called_set.made
  have hsub := F.called_set.sub
  refine wpAny_call (codeAny_of_tree ?_)
  show wpAny _ _ (callAny (.type "set") _) _ _ _
  refine wpAny_pure ⟨Code.quiet_builtin _ (by decide +kernel), codeAny_builtin F.entry_type_call ?_⟩
  rw [Around.under_plain (weight_type_call_type "set" [.ref l] []) rfl]
  have h1 := F.called_set.notType
  have h2 := F.called_set.canCreate
  have hct := F.typeCall_set_1 (.ref l)
  repeat (any_goals (first | assumption | wp_step))
  generalize hn0 : ({ s with heap := s.heap.push (blank w) } : Shared) = s0
  have e0 : s0.heap = s.heap.push (blank w) := by rw [← hn0]
  refine codeAny_mono (code_set_led1 (.ref l) (E := E) (Q₁ := fun obj s₁ => obj = .ref s.heap.objs.size ∧ s₁ = s0) ⟨rfl, hn0⟩) fun r s₁ hr => ?_
  match r, hr with
  | .error e, hr => exact hr
  | .ok .next, hr => exact hr.elim
  | .ok .brk, hr => exact hr.elim
  | .ok .cont, hr => exact hr.elim
  | .ok (.ret obj), hr =>
    obtain ⟨rfl, rfl⟩ := hr
    have hS : s₁.heap.get? s.heap.objs.size = some (blank w) := by rw [e0]; exact Heap.get?_push_size _ rfl
    have hT : Shared.TypeIs s₁ (.ref s.heap.objs.size) "set" := ⟨_, hS, rfl⟩
    have hli := F.called_set.init.lookup
    have hbi := F.called_set.init.bind (.ref s.heap.objs.size)
    repeat (any_goals (first | assumption | wp_step))
    refine codeAny_mono (codeAny_call_builtin (R := wants (fun r s₂ => r = .none ∧ ∃ h' tk c, s₂ = { s with heap := h', toks := tk } ∧ SetG knd key h' s.heap.objs.size (fun j => decide (j ∈ ks)) c ∧
        (∀ b o, s.heap.get? b = some o → h'.get? b = some o)) E) F.called_set.init.plain F.entry_set_init (check_set_init_1 hT ?_)) fun r₂ s₂ hr₂ => ?_
    · have hl1 : s₁.heap.IsList l items := by rw [e0]; exact hl.push _
      have hlS : l < s.heap.objs.size := let ⟨_, ho, _⟩ := hl; Heap.lt_size ho
      have hsz : s₁.heap.objs.size = s.heap.objs.size + 1 := by rw [e0]; exact Heap.size_push ..
      obtain ⟨ol, hol, hcl, hrest⟩ := id hl1
      have hsls := F.sub_list_set
      have hslf := F.sub_list_frozenset
      have hne : (Value.type "list" == Value.type "dict") = false := by decide
      have hty : s₁.TypeIs (.ref l) "list" := hl1.typeIs
      unfold Builtin.«set.__init__» noKeywords Builtin.Frozenset.updateFrom
      generalize hPI : pyIter = PI
      wp_walk
      subst hPI
      refine wpAny_pyIter_list hl1 (wpAny_bind (wpAny_runValue ?_))
      generalize hn2 : ({ s₁ with heap := s₁.heap.push { cls := .type "list_iterator", data := .fields #[.ref l, .int 0 0] } } : Shared) = s3
      have e3 : s3.heap = s₁.heap.push { cls := .type "list_iterator", data := .fields #[.ref l, .int 0 0] } := by rw [← hn2]
      have k01 : ∀ b o, s.heap.get? b = some o → s₁.heap.get? b = some o := fun b o e => by rw [e0]; exact Heap.get?_push_of_some _ e
      have k13 : ∀ b o, s₁.heap.get? b = some o → s3.heap.get? b = some o := fun b o e => by rw [e3]; exact Heap.get?_push_of_some _ e
      have hneI : l ≠ s₁.heap.objs.size := fun z => by rw [z, hsz] at hlS; exact absurd hlS (Nat.not_lt.mpr (Nat.le_succ _))
      have hSf : s.heap.objs.size ∉ [s₁.heap.objs.size, l] := fun z => by
        rcases List.mem_cons.mp z with z | z
        · exact absurd (z.trans hsz) (Nat.ne_of_lt (Nat.lt_succ_self _))
        · rw [List.mem_singleton.mp z] at hlS
          exact Nat.lt_irrefl _ hlS
      have W := Walks.list (prog := P) (w := w) (A := A.in1.in1.in1) (by simp [hh]) s₁.heap.objs.size l hneI items
      refine fill (s := s3) hk W.toS s.heap.objs.size hSf ks hz hb hval (fun sx s' c' hm ex hcn hS' => ?_) (items.size - 0) 0 s3 rfl (Nat.zero_le _) ⟨⟨_, by rw [e3]; exact Heap.get?_push_size _ rfl, rfl, rfl⟩, by rw [e3]; exact hl1.push _⟩ (.inl ⟨rfl, rfl⟩) ⟨0, Nat.le_refl 0, SetG.sameS (SetG.start (k13 _ _ hS) rfl) fun k => by simp⟩
      subst ex
      obtain ⟨h', g2, d', tk', os'⟩ := s'
      have eg : g2 = s.gens := by
        have q := hm.gens
        rw [← hn2, ← hn0] at q
        exact q
      have ed : d' = s.drawn := by
        have q := hm.drawn
        rw [← hn2, ← hn0] at q
        exact q
      have eo : os' = s.os := by
        have q := hm.os
        rw [← hn2, ← hn0] at q
        exact q
      subst eg; subst ed; subst eo
      refine wpAny_pure ?_
      show wpAny _ _ (ret Value.none) _ _ _
      refine wpAny_pure ⟨rfl, h', tk', c', rfl, hS', fun b o e => ?_⟩
      have hb0 : b < s.heap.objs.size := Heap.lt_size e
      refine hm.heap b o (fun z => ?_) (k13 b o (k01 b o e))
      rcases List.mem_cons.mp z with z | z
      · exact Nat.ne_of_lt hb0 z
      · rw [List.mem_singleton.mp z, hsz] at hb0
        exact absurd hb0 (Nat.not_lt.mpr (Nat.le_succ _))
    · match r₂, hr₂ with
      | .error e, hr₂ => exact hr₂
      | .ok .next, hr₂ => exact hr₂.elim
      | .ok .brk, hr₂ => exact hr₂.elim
      | .ok .cont, hr₂ => exact hr₂.elim
      | .ok (.ret r), hr₂ =>
        obtain ⟨rfl, h', tk, c', rfl, hS', hk'⟩ := hr₂
        repeat (any_goals (first | assumption | wp_step))
        exact h _ _ _ hS' hk'
end
end NV
/-! SetG4 -/
set_option Elab.async false
set_option linter.all false
set_option maxRecDepth 100000
set_option maxHeartbeats 600000
/-! sets of texts: made of a sequence, len, sorted -/
namespace NV
open PySem PySem.Spec PyProof.Rows L2
def tKey : Value → Str
  | .str z _ => z
  | _ => ""
section
variable {P : Program} {w : World}
theorem tKey_ok : KeyFn (PySem.strKind P w) tKey := fun k v h => by
  obtain ⟨t, rfl⟩ := Value.isStrOf_shape h
  rfl
def SetT (P : Program) (w : World) (a : Addr) (S : Str → Bool) (n : Nat) : HO := .ext fun h => SetG (PySem.strKind P w) tKey h a S n
theorem setT_new {H : Hp} {h : Heap} {a : Addr} {S : Str → Bool} {n : Nat} (R : SetG (PySem.strKind P w) tKey h a S n) : ObjOk P w H h a (SetT P w a S n) := by
  have ⟨o, _, _, _, ⟨ho, _⟩, _⟩ := R
  exact ⟨R, ⟨o, ho⟩, fun h1 h2 p k => SetG.move p k⟩
end
/-! ### sizes -/
theorem few_of {m : List Str} : ∀ {z : List Str}, m.Nodup → (∀ k ∈ m, k ∈ z) → m.length ≤ z.length ∧ (m.length = z.length → z.Nodup)
  | [], _, h => by
    cases m with
    | nil => exact ⟨Nat.le_refl _, fun _ => .nil⟩
    | cons x m => exact absurd (h x List.mem_cons_self) (by simp)
  | x :: t, hd, h => by
    have h1 : (m.erase x).Nodup := hd.sublist List.erase_sublist
    have h2 : ∀ k ∈ m.erase x, k ∈ t := fun k hk => by
      rcases List.mem_cons.mp (h k (List.mem_of_mem_erase hk)) with z | z
      · rw [z] at hk
        exact absurd hk hd.not_mem_erase
      · exact z
    obtain ⟨a, b⟩ := few_of h1 h2
    have hl : m.length ≤ (m.erase x).length + 1 := by
      rw [List.length_erase]
      split <;> omega
    refine ⟨by rw [List.length_cons]; omega, fun e => ?_⟩
    rw [List.length_cons] at e
    by_cases hx : x ∈ t
    · have h3 : ∀ k ∈ m, k ∈ t := fun k hk => by
        rcases List.mem_cons.mp (h k hk) with z | z
        · rw [z]; exact hx
        · exact z
      have := (few_of hd h3).1
      omega
    · exact List.nodup_cons.mpr ⟨hx, b (by omega)⟩
theorem same_size {m z : List Str} (hm : m.Nodup) (hz : z.Nodup) (h : ∀ k, k ∈ m ↔ k ∈ z) : m.length = z.length :=
  Nat.le_antisymm (few_of hm fun k hk => (h k).mp hk).1 (few_of hz fun k hk => (h k).mpr hk).1
section
variable {P : Program} {w : World}
theorem setG_size {h : Heap} {a : Addr} {zs : List Str} {n : Nat} (R : SetG (PySem.strKind P w) tKey h a (fun j => decide (j ∈ zs)) n) : n ≤ zs.length ∧ (n = zs.length ↔ zs.Nodup) := by
  obtain ⟨o, es, ep, t, _, ⟨_, nd, hm⟩, ⟨_, _, hn⟩, _⟩ := R
  have hl : (mem tKey es).length = n := by unfold mem; rw [List.length_map, Array.length_toList]; exact hn
  have hm' : ∀ k, k ∈ mem tKey es ↔ k ∈ zs := fun k => by rw [← hm k, decide_eq_true_eq]
  obtain ⟨h1, h2⟩ := few_of nd fun k hk => (hm' k).mp hk
  rw [hl] at h1 h2
  exact ⟨h1, h2, fun z => by rw [← hl]; exact same_size nd z hm'⟩
end
section
variable {P : Program} {w : World} {A : Around} {E : Value → Shared → Prop} {s : Shared} {a : Addr}
theorem sorted_setG {S : Str → Bool} {n : Nat} {Q : Value → Shared → Prop} (R : SetG (PySem.strKind P w) tKey s.heap a S n) (hh : A.handled = none) (h64 : n < 64)
    (hQ : ∀ s' p (out : Array Value) (c : Nat) (zs : List Str), (∀ b o, s.heap.get? b = some o → s'.heap.get? b = some o) → s'.gens = s.gens → s'.os = s.os → s.heap.objs.size ≤ p →
      s'.heap.get? p = some (seqObj "list" out c) → StrsAre out.toList zs → Asc zs → (∀ k, k ∈ zs ↔ S k = true) → zs.length = n → Q (.ref p) s') :
    wpAny (model P w) A (call (.builtin "sorted") [.ref a]) Q E s := by
  obtain ⟨o, es, ep, t, ⟨ho, hex, hd⟩, ⟨g, nd, hm⟩, ⟨hb, hf, hn⟩, hr, hl⟩ := R
  refine Calls.call_function_entry kind_sorted plain_sorted entry_sorted (args_sorted1 _) ?_
  unfold Builtin.«sorted»
  refine wpAny_bind (m := checkCount "sorted" 1 1 _) (wpAny_pure ?_)
  refine wpAny_bind (collect_set (A := A.in1) hh ⟨o, ho, hex.1, hd⟩ hf hb hr hl fun s1 vs k1 hz g1 o1 pm => ?_)
  have hvl : vs.length = n := by rw [pm.length_eq, List.length_map, Array.length_toList]; exact hn
  have hI : StrsAre vs (vs.map tKey) := by
    have : ∀ l : List Value, (∀ v ∈ l, ∃ k u, v = Value.str k u) → StrsAre l (l.map tKey) := by
      intro l
      induction l with
      | nil => exact fun _ => .nil
      | cons v l ih =>
        intro h
        obtain ⟨k, u, rfl⟩ := h v List.mem_cons_self
        exact .cons k u (ih fun x hx => h x (List.mem_cons_of_mem _ hx))
    refine this vs fun v hv => ?_
    obtain ⟨e, he, q⟩ := List.mem_map.mp (pm.mem_iff.mp hv)
    obtain ⟨⟨k, hk, _⟩, _⟩ := g e he
    obtain ⟨u, hu⟩ := Value.isStrOf_shape hk
    exact ⟨k, u, by rw [← q]; exact hu⟩
  have pk : (vs.map tKey).Perm (mem tKey es) := by
    have q := pm.map tKey
    rw [List.map_map] at q
    exact q
  refine wpAny_bind (wpAny_newList ?_ (by rw [hvl, sizeLine_eq]; omega))
  have hoL : (s1.heap.push (seqObj "list" vs.toArray 0)).get? s1.heap.objs.size = some (seqObj "list" vs.toArray 0) := Heap.get?_push_size _ rfl
  refine wpAny_bind (wpAny_holding (wpAny_call_entry slot_list_sort ⟨_, hoL, rfl⟩ entry_list_sort (list_sort_treeK strKind_oneLt hoL hI.keysOf (fun v₁ v₂ rest e => keyKind_strs (by rw [← e]; exact hI)) (by rw [hvl]; exact h64) fun st' hp hs => ⟨_, rfl, ?_⟩) (args_list_sort _)))
  obtain ⟨zs, a1, a2, a3⟩ := sorted_out_str hI hp hs
  obtain ⟨c, hc⟩ := sortedHeap_at (vs := vs) (out := (arrOf st').map (·.2)) hoL
  have pn : zs.Perm (mem tKey es) := a2.trans pk
  refine wpAny_pure ⟨_, rfl, hQ _ s1.heap.objs.size _ c zs (fun b u e => ?_) g1 o1 hz hc a1 (sorted_asc a3 (pn.nodup_iff.mpr nd)) (fun k => by rw [pn.mem_iff, ← hm k]) ?_⟩
  · have q := k1 b u e
    have hlt := Heap.lt_size q
    show (sortedHeap (s1.heap.push (seqObj "list" vs.toArray 0)) s1.heap.objs.size vs _).get? b = some u
    rw [sortedHeap_old (Nat.ne_of_lt hlt) (by rw [size_push']; exact Nat.lt_succ_of_lt hlt)]
    exact Heap.get?_push_of_some _ q
  · rw [pn.length_eq]
    show (es.toList.map _).length = n
    rw [List.length_map, Array.length_toList]; exact hn
end
section
variable {X : Cx}
theorem setT_get {pins : List (Addr × Obj)} {σ : L2.St} {H : Hp} {s : Shared} {a : Addr} {S : Str → Bool} {n : Nat} (I : Inv X pins σ H s) (ha : H a = some (SetT X.prog X.w a S n)) : SetG (PySem.strKind X.prog X.w) tKey s.heap a S n := (I.hok a _ ha).1
/-- set(xs), xs a list or a tuple of texts -/
def rSetTx (K : PySem.W.Frag) (P : Program) (w : World) : List V → Hp → VK → Prop := fun xs H Q => ∃ (l : Addr) (zs : List Str), xs = [.ref l] ∧ (SqL K H l (zs.map V.str) ∨ SqT K H l (zs.map V.str)) ∧ zs.length < 1000 ∧
  ∀ (a : Addr) (n : Nat), n ≤ zs.length → (n = zs.length ↔ zs.Nodup) → H a = none → Q (.ref a) (upd H a (SetT P w a (fun j => decide (j ∈ zs)) n))
theorem strs_at {its : List Value} {zs : List Str} (rv : StrsAre its zs) : its.toArray.size = zs.length ∧ ∀ (i : Nat) (v : Value), its.toArray[i]? = some v → ∃ k, zs[i]? = some k ∧ Value.isStrOf k v = true ∧ v.scannable = true := by
  have hl := rv.len_eq
  refine ⟨by simpa using hl, fun i v hv => ?_⟩
  have hv' : its[i]? = some v := by simpa using hv
  have hi : i < zs.length := by rw [← hl]; exact (List.getElem?_eq_some_iff.mp hv').1
  obtain ⟨t, ht⟩ := rv.at (List.getElem?_eq_getElem hi)
  rw [hv'] at ht
  cases ht
  exact ⟨_, List.getElem?_eq_getElem hi, by show (zs[i] == zs[i]) = true; exact beq_self_eq_true _, rfl⟩
theorem cr_setTx (hc : X.calm = true) : CallR X (.type "set") (rSetTx X.K X.prog X.w) := by
  intro pins s σ H xs us Q I r h
  obtain ⟨l, zs, rfl, hs, hz, q⟩ := h
  rw [Vals.ref1 r]
  have hb : zs.length + 1 < scanBound := by unfold scanBound; omega
  rcases hs with hs | hs
  · obtain ⟨its, rv, pl, _⟩ := I.list hs
    obtain ⟨e1, e2⟩ := strs_at rv.strs
    refine call_set_List (knd := PySem.strKind X.prog X.w) (key := tKey) tKey_ok zs (I.ok.hd hc) pl.isList e1 e2 hb fun h' tk c R k => ?_
    obtain ⟨n1, n2⟩ := setG_size R
    exact ⟨.ref s.heap.objs.size, upd H s.heap.objs.size (SetT X.prog X.w s.heap.objs.size (fun j => decide (j ∈ zs)) c), I.laid (t' := tk) k (Nat.le_refl _) (setT_new R), rfl, q _ c n1 n2 (I.hok.fresh (Nat.le_refl _))⟩
  · obtain ⟨its, rv, pl, _⟩ := I.tuple hs
    obtain ⟨e1, e2⟩ := strs_at rv.strs
    refine call_set_Tuple (knd := PySem.strKind X.prog X.w) (key := tKey) tKey_ok zs (I.ok.hd hc) pl e1 e2 hb fun h' tk c R k => ?_
    obtain ⟨n1, n2⟩ := setG_size R
    exact ⟨.ref s.heap.objs.size, upd H s.heap.objs.size (SetT X.prog X.w s.heap.objs.size (fun j => decide (j ∈ zs)) c), I.laid (t' := tk) k (Nat.le_refl _) (setT_new R), rfl, q _ c n1 n2 (I.hok.fresh (Nat.le_refl _))⟩
/-- len(found) -/
def rLenTx (P : Program) (w : World) : List V → Hp → VK → Prop := fun xs H Q => ∃ (a : Addr) (S : Str → Bool) (n : Nat), xs = [.ref a] ∧ H a = some (SetT P w a S n) ∧ Q (.int n) H
theorem cr_lenTx : CallR X (.builtin "len") (rLenTx X.prog X.w) := by
  intro pins s σ H xs us Q I r h
  obtain ⟨a, S, n, rfl, ha, q⟩ := h
  rw [Vals.ref1 r]
  obtain ⟨o, es, ep, t, ⟨ho, hex, hd⟩, _, ⟨hb, hf, hn⟩, _⟩ := setT_get I ha
  have hb' : es.size < 4096 := Nat.lt_of_lt_of_le hb (by unfold scanBound; decide)
  subst hn
  exact PySem.call_len_set ho hex hd hf (by omega) ⟨.int _, H, I.tok _, ⟨_, rfl⟩, q⟩
/-- sorted(found), fewer than 64 -/
def rSortedTx (P : Program) (w : World) : List V → Hp → VK → Prop := fun vs H Q => ∃ (a : Addr) (S : Str → Bool) (n : Nat), vs = [V.ref a] ∧ H a = some (SetT P w a S n) ∧ n < 64 ∧
  ∀ (zs : List Str) (p : Addr), Asc zs → (∀ k, k ∈ zs ↔ S k = true) → zs.length = n → H p = none → Q (.ref p) (upd H p (.lst (zs.map V.str)))
theorem cr_sortedTx (hc : X.calm = true) : CallR X (.builtin "sorted") (rSortedTx X.prog X.w) := by
  intro pins s σ H vs us Q I r h
  obtain ⟨a, S, n, rfl, ha, h64, q⟩ := h
  have R := setT_get I ha
  rw [Vals.ref1 r]
  refine sorted_setG R (I.ok.hd hc) h64 fun s' p out c zs k g o hp hg hi hs hm hl => ?_
  have hlen : (zs.map V.str).length ≤ sizeLine := by rw [List.length_map, hl, sizeLine_eq]; omega
  have hn : H p = none := I.hok.fresh hp
  have J : Inv X pins σ (upd H p (.lst (zs.map V.str))) { s with heap := s'.heap, gens := s'.gens, drawn := s'.drawn, toks := s'.toks } :=
    I.call (ch := []) (Un.laid k hp hn) (I.hok.laid k hp ⟨hlen, out.toList, c, vals_of_strs hi, hg⟩) (by rw [g]; exact I.bare) (fun _ z => nomatch z)
  have e : s' = { s with heap := s'.heap, gens := s'.gens, drawn := s'.drawn, toks := s'.toks } := by
    cases s'
    cases s
    cases o
    rfl
  rw [e]
  exact ⟨.ref p, _, J, rfl, q zs p hs hm hl hn⟩
theorem setTxE (K : PySem.W.Frag) (P : Program) (w : World) (hc : X.calm = true) (hK : X.K = K := by rfl) (hP : X.prog = P := by rfl) (hw : X.w = w := by rfl) : CallR X (.type "set") (rSetTx K P w) := by
  subst hK; subst hP; subst hw; exact cr_setTx hc
theorem lenTxE (P : Program) (w : World) (hP : X.prog = P := by rfl) (hw : X.w = w := by rfl) : CallR X (.builtin "len") (rLenTx P w) := by
  subst hP; subst hw; exact cr_lenTx
theorem sortedTxE (P : Program) (w : World) (hc : X.calm = true) (hP : X.prog = P := by rfl) (hw : X.w = w := by rfl) : CallR X (.builtin "sorted") (rSortedTx P w) := by
  subst hP; subst hw; exact cr_sortedTx hc
end
end NV
/-! G1 -/
set_option Elab.async false
set_option linter.all false
set_option maxRecDepth 100000
set_option maxHeartbeats 400000
namespace NV
open PySem PySem.Spec PyProof.Rows L2
open C8 (pss_cut)
/-! ### what data are -/
def tyN : PyData → String
  | .none => "NoneType"
  | .bool _ => "bool"
  | .int _ => "int"
  | .str _ => "str"
  | .list _ => "list"
  | .tuple _ => "tuple"
  | .dict _ => "dict"
theorem rp_ty {K : PySem.W.Frag} {ex : List Addr} {H : Hp} : ∀ {d : PyData} {v : V}, Rp ex H d v → TyX K H v (.type (tyN d))
  | .none, _, h => by
    subst h
    exact .base .non
  | .bool b, _, h => by
    subst h
    exact .base (.bl b)
  | .int i, _, h => by
    subst h
    exact .base (.int i)
  | .str z, _, h => by
    subst h
    exact .base (.str z)
  | .list ds, _, ⟨a, xs, e, _, h1, _⟩ => by
    subst e
    exact .base (.lst h1)
  | .tuple ds, _, ⟨a, xs, e, _, h1, _⟩ => by
    subst e
    exact .base (.tup h1)
  | .dict kvs, _, ⟨_, a, e, _, h1⟩ => by
    subst e
    exact .base (.dK h1)
/-- isinstance of data -/
def isD (T : String) (d : PyData) : Bool := tyN d == T || (T == "int" && tyN d == "bool")
def isTys : List String := ["str", "int", "bool", "list", "tuple"]
theorem kit_isD : ∀ T ∈ isTys, ∀ d : PyData, kitB (tyN d) T = some (isD T d) := by
  have h : ∀ T ∈ isTys, ∀ t ∈ ["NoneType", "bool", "int", "str", "list", "tuple", "dict"], kitB t T = some (t == T || (T == "int" && t == "bool")) := by decide +kernel
  intro T hT d
  refine h T hT (tyN d) ?_
  cases d <;> simp [tyN]
def rIsD (T : String) : List V → Hp → VK → Prop := fun xs H Q => ∃ (v : V) (d : PyData) (ex : List Addr), xs = [v, .ty T] ∧ Rp ex H d v ∧ Q (.bl (isD T d)) H
theorem cr_isD {X : Cx} {T : String} (hT : T ∈ isTys) : CallR X (.builtin "isinstance") (rIsD T) := by
  intro pins s σ H xs us Q I r h
  obtain ⟨v, d, ex, rfl, hd, q⟩ := h
  exact call_isi pins s σ H _ us Q I r ⟨v, .ty T, _, _, isD T d, rfl, .ty T, rp_ty hd, kit_ty (kit_isD T hT d), q⟩
def rIsD2 (T U : String) : List V → Hp → VK → Prop := fun xs H Q => ∃ (v : V) (d : PyData) (ex : List Addr) (tp : Addr), xs = [v, .ref tp] ∧ H tp = some (.tup [.ty T, .ty U]) ∧ Rp ex H d v ∧ Q (.bl (isD T d || isD U d)) H
theorem cr_isD2 {X : Cx} {T U : String} (hT : T ∈ isTys) (hU : U ∈ isTys) : CallR X (.builtin "isinstance") (rIsD2 T U) := by
  intro pins s σ H xs us Q I r h
  obtain ⟨v, d, ex, tp, rfl, ht, hd, q⟩ := h
  refine call_isiT pins s σ H _ us Q I r ⟨v, tp, _, _, _, isD T d || isD U d, rfl, ht, .cons (.ty T) (.cons (.ty U) .nil), rp_ty hd, ?_, q⟩
  refine kitAny_cons (kit_ty (kit_isD T hT d)) (fun e => ?_) (fun e => by rw [e]; rfl)
  rw [e, Bool.false_or]
  exact kitAny_cons (kit_ty (kit_isD U hU d)) (fun e => by rw [e]; rfl) (fun e => e)
/-- a word of 1 to most signs, of any data -/
def wordD (most : Nat) (digits : Bool) : PyData → Bool
  | .str z => wordB most digits z
  | _ => false
theorem str_of_isD {d : PyData} (h : isD "str" d = true) : ∃ z, d = .str z := by
  cases d with
  | str z => exact ⟨z, rfl⟩
  | _ => exact absurd (show (_ : Bool) = true from h) (by simp [isD, tyN])
theorem wordD_no {d : PyData} {m : Nat} {b : Bool} (h : isD "str" d = false) : wordD m b d = false := by
  cases d with
  | str z => exact absurd h (by simp [isD, tyN])
  | _ => rfl
def digS (b : Bool) : Str := if b then "0123456789" else ""
theorem sign_in (b : Bool) (c : Nat) : decide (c ∈ (("abcdefghijklmnopqrstuvwxyz" : Str) ++ digS b).cps.toList) = isSign b c := by
  have h1 : (("abcdefghijklmnopqrstuvwxyz" : Str) ++ digS true).cps.toList = [97, 98, 99, 100, 101, 102, 103, 104, 105, 106, 107, 108, 109, 110, 111, 112, 113, 114, 115, 116, 117, 118, 119, 120, 121, 122, 48, 49, 50, 51, 52, 53, 54, 55, 56, 57] := by decide +kernel
  have h2 : (("abcdefghijklmnopqrstuvwxyz" : Str) ++ digS false).cps.toList = [97, 98, 99, 100, 101, 102, 103, 104, 105, 106, 107, 108, 109, 110, 111, 112, 113, 114, 115, 116, 117, 118, 119, 120, 121, 122] := by decide +kernel
  have e : ∀ {p q : Prop} [Decidable p] [Decidable q], (p ↔ q) → decide p = decide q := fun h => by simp [h]
  unfold isSign
  cases b with
  | true =>
    rw [h1, show ((decide (97 ≤ c) && decide (c ≤ 122)) || (true && (decide (48 ≤ c) && decide (c ≤ 57)))) = decide ((97 ≤ c ∧ c ≤ 122) ∨ (48 ≤ c ∧ c ≤ 57)) by simp]
    refine e ?_
    simp only [List.mem_cons, List.not_mem_nil, or_false]
    omega
  | false =>
    rw [h2, show ((decide (97 ≤ c) && decide (c ≤ 122)) || (false && (decide (48 ≤ c) && decide (c ≤ 57)))) = decide (97 ≤ c ∧ c ≤ 122) by simp]
    refine e ?_
    simp only [List.mem_cons, List.not_mem_nil, or_false]
    omega
/-- a comprehension over a text whose test and element change nothing -/
theorem lc_sign {tt : TT} {te : TE} {i : Nat} {σ : L2.St} {C : Addr} {z : Str} {H1 : Hp} {Qd : Hp → Prop} (p : Nat → Bool) (hz : z.cps.size < 1000)
    (htt : ∀ (c : Nat) (H : Hp) (Q : Bool → Hp → Prop), Q (p c) H → tt ((wipe σ [i]).set i (some (.str ⟨#[c]⟩))) H Q)
    (hte : ∀ (c : Nat) (H : Hp) (Q : V → Hp → Prop), Q (.str ⟨#[c]⟩) H → te ((wipe σ [i]).set i (some (.str ⟨#[c]⟩))) H Q) (hd : Qd (upd H1 C (.lst ((z.cps.toList.filter p).map fun c => V.str ⟨#[c]⟩)))) :
    ∃ W : Nat → Nat → Hp → Prop, (∃ m, W 0 m (upd H1 C (.lst []))) ∧ ∀ i' m H, W i' m H →
      ((Its z).stop i' H ∧ Qd H) ∨ ((Its z).go i' H ∧ ∃ Nx : Hp → Prop, (∀ H', Nx H' → ∃ m', m' < m ∧ W (i' + 1) m' H') ∧ ∀ x H', (Its z).yld i' H x H' → gName i x (wipe σ [i]) H' fun σ2 H2 => wipe σ2 [i] = wipe σ [i] ∧ tt σ2 H2 fun b H3 =>
        if b = true then te σ2 H3 fun y H4 => ∃ acc, H4 C = some (.lst acc) ∧ acc.length < sizeLine ∧ Nx (upd H4 C (.lst (acc ++ [y]))) else Nx H3) := by
  have hn : z.cps.toList.length = z.cps.size := Array.length_toList
  refine ⟨fun i' m H => m = z.cps.size - i' ∧ i' ≤ z.cps.size ∧ H = upd H1 C (.lst (((z.cps.toList.take i').filter p).map fun c => V.str ⟨#[c]⟩)), ⟨z.cps.size, by simp, Nat.zero_le _, rfl⟩, ?_⟩
  rintro i' m H ⟨rfl, hi, rfl⟩
  by_cases hlt : i' < z.cps.size
  · refine .inr ⟨hlt, fun H' => H' = upd H1 C (.lst (((z.cps.toList.take (i' + 1)).filter p).map fun c => V.str ⟨#[c]⟩)), fun H' e => ⟨z.cps.size - (i' + 1), by omega, rfl, hlt, e⟩, ?_⟩
    rintro x H' ⟨rfl, c, hc, rfl⟩
    have hc' : z.cps.toList[i']? = some c := by rw [Array.getElem?_toList]; exact hc
    have htk : z.cps.toList.take (i' + 1) = z.cps.toList.take i' ++ [c] := by rw [List.take_add_one, hc']; rfl
    refine ⟨wipe_again, htt c _ _ ?_⟩
    cases hp : p c with
    | true =>
      refine iteT (hte c _ _ ⟨_, upd_same, ?_, ?_⟩)
      · have h1 : ((z.cps.toList.take i').filter p).length ≤ (z.cps.toList.take i').length := List.length_filter_le _ _
        rw [List.length_take] at h1
        rw [List.length_map]
        exact small1000 (by omega)
      · rw [upd_upd, htk, List.filter_append, List.map_append, List.filter_cons_of_pos hp]
        rfl
    | false =>
      refine iteF ?_
      rw [htk, List.filter_append, List.filter_cons_of_neg (by rw [hp]; exact Bool.false_ne_true)]
      simp
  · have e : i' = z.cps.size := by omega
    subst e
    refine .inl ⟨Nat.le_refl _, ?_⟩
    rw [← hn, List.take_length]
    exact hd
theorem strOk_one {z : Str} {c : Nat} (h : PyData.strOk z = true) (hc : c ∈ z.cps.toList) : PyData.strOk ⟨#[c]⟩ = true := by
  unfold PyData.strOk at h ⊢
  rw [Array.all_eq_true_iff_forall_mem] at h
  have := h c (by simpa using hc)
  simpa using this
/-! ### lists of texts, compared -/
theorem dpAll_strs {K : PySem.W.Frag} {H : Hp} : ∀ zs : List Str, DpAll K H (zs.map V.str) (zs.map PyData.str)
  | [] => .nil
  | z :: zs => .cons (.str z) (dpAll_strs zs)
theorem lay_strs : ∀ zs : List Str, (∀ z ∈ zs, PyData.strOk z = true) → PyData.canLayAll0 (zs.map PyData.str) = true
  | [], _ => by simp [PyData.canLayAll0]
  | z :: zs, h => by
    have := lay_strs zs fun y hy => h y (List.mem_cons_of_mem _ hy)
    simp [PyData.canLayAll0, PyData.canLay0, this, h z List.mem_cons_self]
theorem depth_strs : ∀ zs : List Str, PyData.depthAll (zs.map PyData.str) = 0
  | [] => by simp [PyData.depthAll]
  | z :: zs => by
    have := depth_strs zs
    simp [PyData.depthAll, PyData.depth, this]
theorem shaped_strs (zs : List Str) (h : ∀ z ∈ zs, PyData.strOk z = true) : SeqAt.shaped (.list (zs.map PyData.str)) = true := by
  unfold SeqAt.shaped
  simp [PyData.canLay0, PyData.depth, lay_strs zs h, depth_strs]
theorem eqv_strs : ∀ zs ys : List Str, PyData.eqv (.list (zs.map PyData.str)) (.list (ys.map PyData.str)) = decide (zs = ys)
  | [], [] => by simp [PyData.eqv, PyData.eqvAll]
  | [], y :: ys => by simp [PyData.eqv, PyData.eqvAll]
  | z :: zs, [] => by simp [PyData.eqv, PyData.eqvAll]
  | z :: zs, y :: ys => by
    have := eqv_strs zs ys
    simp only [PyData.eqv] at this
    simp only [List.map_cons, PyData.eqv, PyData.eqvAll, this]
    by_cases h : z = y
    · simp [h]
    · simp [h]
theorem eq_strs {K : PySem.W.Frag} {H : Hp} {a b : Addr} {zs ys : List Str} {Q : VK} (ha : SqL K H a (zs.map V.str)) (hb : SqL K H b (ys.map V.str)) (oz : ∀ z ∈ zs, PyData.strOk z = true) (oy : ∀ z ∈ ys, PyData.strOk z = true) (q : Q (.bl (decide (zs = ys))) H) : rEqD K (.ref a) (.ref b) H Q := by
  refine ⟨_, _, .lst ha (dpAll_strs zs), .lst hb (dpAll_strs ys), shaped_strs zs oz, shaped_strs ys oy, ?_⟩
  rw [eqv_strs]
  exact q
end NV
/-! L2a -/
set_option Elab.async false
set_option linter.all false
set_option maxRecDepth 100000
set_option maxHeartbeats 400000
namespace NV
open PySem PySem.Spec PyProof.Rows L2
open C8 (pss_cut)
def rNeNil (K : PySem.W.Frag) : R2 := fun x y H Q => ∃ (a b : Addr) (xs : List V), x = .ref a ∧ y = .ref b ∧ SqL K H a xs ∧ SqL K H b [] ∧ Q (.bl (!xs.isEmpty)) H
theorem op_neNil {X : Cx} (K : PySem.W.Frag) (hu : X.A.units + 64 < cLine) (hK : X.K = K := by rfl) : OpR X (compareOp .NotEq) (rNeNil K) := by
  subst hK
  intro pins s σ H x y v u Q I rx ry h
  obtain ⟨a, b, xs, rfl, rfl, ha, hb, q⟩ := h
  cases xs with
  | nil => exact op_neD hu pins s σ H _ _ v u Q I rx ry ⟨.list [], .list [], .lst ha .nil, .lst hb .nil, by decide, by decide, q⟩
  | cons z zs =>
    obtain rfl : v = Value.ref a := rx
    obtain rfl : u = Value.ref b := ry
    obtain ⟨its, rv, pl, _⟩ := I.list ha
    obtain ⟨its2, rv2, pl2, _⟩ := I.list hb
    cases rv2
    have hsz : (its.toArray.size != ([] : List Value).toArray.size) = true := by
      have := rv.length
      simp at this
      simp
      intro e
      rw [e] at this
      simp at this
    exact SeqAt.RcNeAt.lists_lengths pl.isList pl2.isList hsz (by omega) _ _ _ _ ⟨.bl true, H, I, rfl, q⟩
/-! ### comprehensions whose test and element lay things -/
theorem lc_growT {K : PySem.W.Frag} {tt : TT} {te : TE} {i : Nat} {σ : L2.St} {C a : Addr} {xs : List V} {H1 : Hp} {Qd : Hp → Prop} (p : Nat → Bool) (f : Nat → V) (hS : SqT K H1 a xs) (nC : H1 C = none) (hz : xs.length < 1000)
    (htt : ∀ (j : Nat) (x : V) (H : Hp) (Q : Bool → Hp → Prop), xs[j]? = some x → Kp [C] H1 H → (∀ H', Kp [] H H' → Q (p j) H') → tt ((wipe σ [i]).set i (some x)) H Q)
    (hte : ∀ (j : Nat) (x : V) (H : Hp) (Q : V → Hp → Prop), xs[j]? = some x → p j = true → Kp [C] H1 H → (∀ H', Kp [] H H' → Q (f j) H') → te ((wipe σ [i]).set i (some x)) H Q)
    (hd : ∀ H', Kp [C] H1 H' → H' C = some (.lst (((List.range xs.length).filter p).map f)) → Qd H') :
    ∃ W : Nat → Nat → Hp → Prop, (∃ m, W 0 m (upd H1 C (.lst []))) ∧ ∀ i' m H, W i' m H →
      ((Itt K a).stop i' H ∧ Qd H) ∨ ((Itt K a).go i' H ∧ ∃ Nx : Hp → Prop, (∀ H', Nx H' → ∃ m', m' < m ∧ W (i' + 1) m' H') ∧ ∀ x H', (Itt K a).yld i' H x H' → gName i x (wipe σ [i]) H' fun σ2 H2 => wipe σ2 [i] = wipe σ [i] ∧ tt σ2 H2 fun b H3 =>
        if b = true then te σ2 H3 fun y H4 => ∃ acc, H4 C = some (.lst acc) ∧ acc.length < sizeLine ∧ Nx (upd H4 C (.lst (acc ++ [y]))) else Nx H3) := by
  have aC : a ≠ C ∨ True := .inr trivial
  have sq : ∀ {H : Hp}, Kp [C] H1 H → SqT K H a xs := fun {H} k => by
    by_cases e : a = C
    · subst e
      rcases hS with (h | ⟨o, h⟩) | h
      · rw [nC] at h; cases h
      · rw [nC] at h; cases h
      · exact .inr h
    · exact Kp.seqT k (by simpa using e) hS
  refine lc_tup (K := K) (a := a) (xs := xs) (fun j H' => Kp [C] H1 H' ∧ H' C = some (.lst (((List.range j).filter p).map f))) ⟨Kp.laid nC, upd_same⟩ (fun j H' _ e => sq e.1) (fun j x H' hx e => ?_) (fun H' e => hd H' e.1 e.2)
  obtain ⟨k1, e1⟩ := e
  have hj : j < xs.length := (List.getElem?_eq_some_iff.mp hx).1
  refine ⟨wipe_again, htt j x _ _ hx k1 fun H2 k2 => ?_⟩
  have e2 := k2 _ _ (by simp) e1
  have k12 : Kp [C] H1 H2 := k1.trans (k2.mono (by simp))
  cases hp : p j with
  | true =>
    refine iteT (hte j x _ _ hx hp k12 fun H3 k3 => ⟨_, k3 _ _ (by simp) e2, ?_, ?_⟩)
    · have h1 : ((List.range j).filter p).length ≤ (List.range j).length := List.length_filter_le _ _
      rw [List.length_range] at h1
      rw [List.length_map]
      exact small1000 (by omega)
    · refine ⟨(k12.trans (k3.mono (by simp))).trans (Kp.put (by simp)), ?_⟩
      rw [upd_same, List.range_succ, List.filter_append, List.map_append, List.filter_cons_of_pos hp]
      rfl
  | false =>
    refine iteF ⟨k12, ?_⟩
    rw [e2, List.range_succ, List.filter_append, List.filter_cons_of_neg (by rw [hp]; exact Bool.false_ne_true)]
    simp
end NV
/-! G3 -/
set_option Elab.async false
set_option linter.all false
set_option maxRecDepth 100000
set_option maxHeartbeats 400000
namespace NV
open PySem PySem.Spec PyProof.Rows L2
open C8 (pss_cut)
/-! ### data that are within bounds -/
mutual
def niceD : PyData → Bool
  | .none => true
  | .bool _ => true
  | .int i => decide (i.natAbs.log2 < 1920)
  | .str z => decide (z.length ≤ 100) && PyData.strOk z
  | .list ds => niceAll ds
  | .tuple ds => niceAll ds
  | .dict kvs => kvs.isEmpty
def niceAll : List PyData → Bool
  | [] => true
  | d :: ds => niceD d && niceAll ds
end
theorem nice_mem : ∀ {ds : List PyData} {d : PyData}, niceAll ds = true → d ∈ ds → niceD d = true
  | e :: ds, d, h, hd => by
    simp only [niceAll, Bool.and_eq_true] at h
    rcases List.mem_cons.mp hd with z | z
    · rw [z]; exact h.1
    · exact nice_mem h.2 z
theorem nice_str {z : Str} (h : niceD (.str z) = true) : z.length ≤ 100 ∧ PyData.strOk z = true := by
  simp only [niceD, Bool.and_eq_true, decide_eq_true_eq] at h
  exact h
theorem nice_tup {ds : List PyData} (h : niceD (.tuple ds) = true) : ∀ d ∈ ds, niceD d = true := by
  simp only [niceD] at h
  exact fun d hd => nice_mem h hd
theorem RpAll.length {ex : List Addr} {H : Hp} : ∀ {ds : List PyData} {vs : List V}, RpAll ex H ds vs → ds.length = vs.length
  | [], _, h => by subst h; rfl
  | d :: ds, _, ⟨v, ws, e, _, h2⟩ => by
    subst e
    rw [List.length_cons, List.length_cons, RpAll.length h2]
theorem RpAll.at {ex : List Addr} {H : Hp} : ∀ {ds : List PyData} {vs : List V} {j : Nat} {d : PyData}, RpAll ex H ds vs → ds[j]? = some d → ∃ v, vs[j]? = some v ∧ Rp ex H d v
  | [], _, j, d, _, hj => by simp at hj
  | e :: ds, _, 0, d, ⟨v, ws, ev, h1, _⟩, hj => by
    subst ev
    simp at hj
    subst hj
    exact ⟨v, rfl, h1⟩
  | e :: ds, _, j + 1, d, ⟨v, ws, ev, _, h2⟩, hj => by
    subst ev
    obtain ⟨u, hu, hr⟩ := RpAll.at h2 (by simpa using hj)
    exact ⟨u, by simpa using hu, hr⟩
/-- the texts among data -/
def textsOf : List PyData → List Str
  | [] => []
  | .str z :: ds => z :: textsOf ds
  | _ :: ds => textsOf ds
theorem texts_all {m : Nat} {b : Bool} {ex : List Addr} {H : Hp} : ∀ {ds : List PyData} {vs : List V}, RpAll ex H ds vs → ds.all (wordD m b) = true → vs = (textsOf ds).map V.str ∧ ds = (textsOf ds).map PyData.str
  | [], _, h, _ => by subst h; exact ⟨rfl, rfl⟩
  | d :: ds, _, ⟨v, ws, e, h1, h2⟩, ha => by
    subst e
    rw [List.all_cons, Bool.and_eq_true] at ha
    obtain ⟨e1, e2⟩ := texts_all h2 ha.2
    cases d with
    | str z =>
      obtain rfl : v = .str z := h1
      refine ⟨?_, ?_⟩
      · show V.str z :: ws = V.str z :: (textsOf ds).map V.str
        rw [← e1]
      · show PyData.str z :: ds = PyData.str z :: (textsOf ds).map PyData.str
        rw [← e2]
    | _ => exact absurd ha.1 (by simp [wordD])
/-- a rising tuple of least to 3 cells -/
def cellsD (least : Nat) : PyData → Bool
  | .tuple ds => decide (least ≤ ds.length) && decide (ds.length ≤ 3) && ds.all (wordD 4 false) && decide (Asc (textsOf ds))
  | _ => false
theorem tup_of_isD {d : PyData} (h : isD "tuple" d = true) : ∃ ds, d = .tuple ds := by
  cases d with
  | tuple ds => exact ⟨ds, rfl⟩
  | _ => exact absurd (show (_ : Bool) = true from h) (by simp [isD, tyN])
theorem cellsD_no {d : PyData} {l : Nat} (h : isD "tuple" d = false) : cellsD l d = false := by
  cases d with
  | tuple ds => exact absurd h (by simp [isD, tyN])
  | _ => rfl
end NV
/-! ReprEq -/
set_option Elab.async false
set_option linter.all false
set_option maxRecDepth 100000
set_option maxHeartbeats 600000
/-! which data show as a given plain text in quotes -/
namespace NV
open PySem PySem.Spec PyProof.Rows L2
open PySem.Builtin.Str (reprChar)
theorem cat_list (x y : Str) : (x ++ y).cps.toList = x.cps.toList ++ y.cps.toList := by
  show (x.cps ++ y.cps).toList = _
  rw [Array.toList_append]
theorem from_pre : ∀ (ts : List Str) (k : Nat) (acc : Str), ∃ r, (textFrom k acc ts).cps.toList = acc.cps.toList ++ r
  | [], k, acc => ⟨[], by show acc.cps.toList = _; rw [List.append_nil]⟩
  | t :: ts, k, acc => by
    obtain ⟨r, hr⟩ := from_pre ts (k + 1) (acc ++ (if k > 0 then ", " else "" : String) ++ t)
    refine ⟨(Str.ofString (if k > 0 then ", " else "")).cps.toList ++ t.cps.toList ++ r, ?_⟩
    show (textFrom (k + 1) (acc ++ (if k > 0 then ", " else "" : String) ++ t) ts).cps.toList = _
    rw [hr, cat_list, cat_list]
    simp only [List.append_assoc]
theorem char_own {q c : Nat} (h : 92 ∉ reprChar q c) : reprChar q c = [c] := by
  unfold reprChar at h ⊢
  split at h
  · simp at h
  split at h
  · simp at h
  split at h
  · simp at h
  split at h
  · simp at h
  split at h
  · simp_all
  split at h
  · simp at h
  split at h
  · simp at h
  · simp at h
theorem fold_list (q : Nat) : ∀ (l : List Nat) (acc : Array Nat), (l.foldl (fun out c => out ++ (reprChar q c).toArray) acc).toList = acc.toList ++ l.flatMap (reprChar q)
  | [], acc => by simp
  | c :: l, acc => by
    rw [List.foldl_cons, fold_list q l]
    simp
theorem repr_list (z : Str) : (reprText z).cps.toList = reprQuote z :: (z.cps.toList.flatMap (reprChar (reprQuote z)) ++ [reprQuote z]) := by
  unfold reprText
  show (Array.push _ _).toList = _
  rw [Array.toList_push, ← Array.foldl_toList, fold_list]
  simp
theorem flat_own {q : Nat} : ∀ {l m : List Nat}, 92 ∉ m → l.flatMap (reprChar q) = m → l = m
  | [], m, _, h => by simpa using h
  | c :: l, m, hm, h => by
    rw [List.flatMap_cons] at h
    have h1 : 92 ∉ reprChar q c := fun x => hm (by rw [← h]; exact List.mem_append_left _ x)
    rw [char_own h1] at h
    cases m with
    | nil => simp at h
    | cons b m =>
      simp only [List.cons_append, List.nil_append, List.cons.injEq] at h
      rw [h.1, flat_own (fun x => hm (List.mem_cons_of_mem _ x)) h.2]
/-- data that show as 'x', x without signs that are written otherwise -/
theorem shown_quoted {d : PyData} {x : Str} (h92 : 92 ∉ x.cps.toList) (h : d.shown.cps.toList = 39 :: (x.cps.toList ++ [39])) : d = .str x := by
  have hd : ∀ {c : Nat} {r : List Nat}, d.shown.cps.toList = c :: r → c = 39 := fun e => by
    rw [h] at e
    exact (List.cons.inj e).1.symm
  cases d with
  | none =>
    have e : PyData.none.shown.cps.toList = 78 :: [111, 110, 101] := by simp only [PyData.shown]; decide
    exact absurd (hd e) (by decide)
  | bool b =>
    cases b with
    | true =>
      have e : (PyData.bool true).shown.cps.toList = 84 :: [114, 117, 101] := by simp only [PyData.shown]; decide
      exact absurd (hd e) (by decide)
    | false =>
      have e : (PyData.bool false).shown.cps.toList = 70 :: [97, 108, 115, 101] := by simp only [PyData.shown]; decide
      exact absurd (hd e) (by decide)
  | int i =>
    have := int_text_free' 39 ⟨by decide, by decide⟩ i
    simp only [PyData.shown] at h
    rw [h] at this
    simp at this
  | str z =>
    simp only [PyData.shown] at h
    rw [repr_list] at h
    obtain ⟨h1, h2⟩ := List.cons.inj h
    have h3 := List.append_inj_left' h2 rfl
    have := flat_own h92 h3
    exact congrArg PyData.str (ext_toList this)
  | list ds =>
    obtain ⟨r, hr⟩ := from_pre (PyData.shownAll ds) 0 "["
    have e : (PyData.list ds).shown.cps.toList = 91 :: (r ++ [93]) := by
      simp only [PyData.shown]
      unfold listText
      rw [cat_list, hr]
      rfl
    exact absurd (hd e) (by decide)
  | tuple ds =>
    have e : ∃ r, (PyData.tuple ds).shown.cps.toList = 40 :: r := by
      simp only [PyData.shown]
      unfold tupleText
      rw [cat_list, cat_list]
      exact ⟨_, rfl⟩
    obtain ⟨r, e⟩ := e
    exact absurd (hd e) (by decide)
  | dict kvs =>
    have e : ∃ r, (PyData.dict kvs).shown.cps.toList = 123 :: r := by
      simp only [PyData.shown]
      unfold dictText
      rw [cat_list, cat_list]
      exact ⟨_, rfl⟩
    obtain ⟨r, e⟩ := e
    exact absurd (hd e) (by decide)
theorem shown_query {d : PyData} : d.shown = ("'query'" : Str) ↔ d = .str "query" := by
  refine ⟨fun h => shown_quoted (by decide) (by rw [h]; decide), fun h => ?_⟩
  subst h
  simp only [PyData.shown]
  decide +kernel
theorem shown_write {d : PyData} : d.shown = ("'write'" : Str) ↔ d = .str "write" := by
  refine ⟨fun h => shown_quoted (by decide) (by rw [h]; decide), fun h => ?_⟩
  subst h
  simp only [PyData.shown]
  decide +kernel
end NV
/-! G4 -/
set_option Elab.async false
set_option linter.all false
set_option maxRecDepth 100000
set_option maxHeartbeats 400000
namespace NV
open PySem PySem.Spec PyProof.Rows L2
open C8 (pss_cut)
mutual
theorem show_of_nice : ∀ d : PyData, niceD d = true → d.showable = true
  | .none, _ => by simp only [PyData.showable]
  | .bool _, _ => by simp only [PyData.showable]
  | .str _, _ => by simp only [PyData.showable]
  | .int i, h => by simpa only [PyData.showable, niceD] using h
  | .list ds, h => by
    simp only [niceD] at h
    simp only [PyData.showable]
    exact shows_of_nice ds h
  | .tuple ds, h => by
    simp only [niceD] at h
    simp only [PyData.showable]
    exact shows_of_nice ds h
  | .dict kvs, h => by
    simp only [niceD] at h
    cases kvs with
    | nil => simp only [PyData.showable, PyData.showableKv]
    | cons x r => simp at h
theorem shows_of_nice : ∀ ds : List PyData, niceAll ds = true → PyData.showableAll ds = true
  | [], _ => by simp only [PyData.showableAll]
  | d :: ds, h => by
    simp only [niceAll, Bool.and_eq_true] at h
    simp only [PyData.showableAll, Bool.and_eq_true]
    exact ⟨show_of_nice d h.1, shows_of_nice ds h.2⟩
end
/-! ### how long data show -/
mutual
def vol : PyData → Nat
  | .none => 5
  | .bool _ => 5
  | .int i => i.natAbs.log2 + 2
  | .str z => 10 * z.length + 2
  | .list ds => volAll ds + 3
  | .tuple ds => volAll ds + 3
  | .dict _ => 2
def volAll : List PyData → Nat
  | [] => 0
  | d :: ds => vol d + 2 + volAll ds
end
theorem join_le : ∀ ts : List Str, (Str.join ", " ts).length ≤ piled ts
  | [] => Nat.zero_le _
  | t :: ts => by
    have := join_length_add (t :: ts) (by simp)
    omega
theorem vol_nat {i : Int} : ((toString i : String) : Str).length ≤ i.natAbs.log2 + 2 := by
  have h := int_text_length_le (a := i) (k := i.natAbs.log2 + 1) (by omega) (by omega)
  rw [PySem.ofString_length]
  omega
theorem list_text_le : ∀ ts : List Str, (listText ts).length ≤ piled ts + 2
  | [] => by rw [listText_nil]; decide
  | t :: r => by
    have h := textFrom_length_pos r 1 (("[" : Str) ++ (if (0 : Nat) > 0 then ", " else "" : String) ++ t) (Nat.succ_pos 0)
    have e : ((("[" : Str) ++ (if (0 : Nat) > 0 then ", " else "" : String) ++ t)).length = 1 + t.length := by
      rw [strLen_append, strLen_append]
      rfl
    have e2 : (listText (t :: r)).length = (textFrom 1 (("[" : Str) ++ (if (0 : Nat) > 0 then ", " else "" : String) ++ t) r).length + 1 := by
      show (textFrom 1 (("[" : Str) ++ (if (0 : Nat) > 0 then ", " else "" : String) ++ t) r ++ "]").length = _
      rw [strLen_append]
      rfl
    rw [e2, h, e, piled_cons]
    omega
theorem tuple_text_le (ts : List Str) : (tupleText ts).length ≤ piled ts + 3 := by
  have h := join_le ts
  unfold tupleText
  rw [strLen_append, strLen_append]
  have e1 : ("(" : Str).length = 1 := rfl
  have e2 : (Str.ofString (if (ts.length == 1) = true then ",)" else ")")).length ≤ 2 := by split <;> decide
  omega
mutual
theorem shown_le : ∀ d : PyData, niceD d = true → d.shown.length ≤ vol d
  | .none, _ => by simp only [PyData.shown, vol]; decide
  | .bool b, _ => by simp only [PyData.shown, vol]; cases b <;> decide
  | .str z, h => by
    simp only [PyData.shown, vol]
    refine StrLaws.reprText_len z fun c hc => ?_
    have := (nice_str h).2
    unfold PyData.strOk at this
    rw [Array.all_eq_true_iff_forall_mem] at this
    have h2 := this c (by simpa using hc)
    have h3 : c < 0x110000 := by simpa using h2
    omega
  | .int i, h => by
    simp only [PyData.shown, vol]
    exact vol_nat
  | .list ds, h => by
    simp only [niceD] at h
    simp only [PyData.shown, vol]
    have h1 := piled_le ds h
    have h2 := list_text_le (PyData.shownAll ds)
    omega
  | .tuple ds, h => by
    simp only [niceD] at h
    simp only [PyData.shown, vol]
    have h1 := piled_le ds h
    have h2 := tuple_text_le (PyData.shownAll ds)
    omega
  | .dict kvs, h => by
    simp only [niceD] at h
    cases kvs with
    | nil => simp only [PyData.shown, PyData.shownKv, vol]; decide
    | cons x r => simp at h
theorem piled_le : ∀ ds : List PyData, niceAll ds = true → piled (PyData.shownAll ds) ≤ volAll ds
  | [], _ => by simp only [PyData.shownAll, volAll]; decide
  | d :: ds, h => by
    simp only [niceAll, Bool.and_eq_true] at h
    have h1 := shown_le d h.1
    have h2 := piled_le ds h.2
    simp only [PyData.shownAll, volAll]
    rw [piled_cons]
    omega
end
/-- data within all bounds -/
structure Good (d : PyData) : Prop where
  nice : niceD d = true
  deep : d.depth ≤ 64
  small : vol d ≤ 1000000
theorem Good.fits {d : PyData} (g : Good d) : d.shown.length ≤ sizeLine := by
  have := shown_le d g.nice
  have := g.small
  rw [sizeLine_eq]
  omega
theorem vol_mem : ∀ {ds : List PyData} {d : PyData}, d ∈ ds → vol d ≤ volAll ds
  | e :: ds, d, h => by
    simp only [volAll]
    rcases List.mem_cons.mp h with z | z
    · rw [z]; omega
    · have := vol_mem z
      omega
theorem shown_mem : ∀ {ds : List PyData} {d : PyData}, d ∈ ds → d.shown ∈ PyData.shownAll ds
  | e :: ds, d, h => by
    simp only [PyData.shownAll]
    rcases List.mem_cons.mp h with z | z
    · rw [z]; exact List.mem_cons_self
    · exact List.mem_cons_of_mem _ (shown_mem z)
theorem depth_mem : ∀ {ds : List PyData} {d : PyData}, d ∈ ds → d.depth ≤ PyData.depthAll ds
  | e :: ds, d, h => by
    simp only [PyData.depthAll]
    rcases List.mem_cons.mp h with z | z
    · rw [z]; exact Nat.le_max_left _ _
    · exact Nat.le_trans (depth_mem z) (Nat.le_max_right _ _)
theorem Good.item {ds : List PyData} {d : PyData} (g : Good (.tuple ds)) (h : d ∈ ds) : Good d := by
  refine ⟨nice_tup g.nice d h, ?_, ?_⟩
  · have h1 := g.deep
    simp only [PyData.depth] at h1
    have := depth_mem h
    omega
  · have h1 := g.small
    simp only [vol] at h1
    have := vol_mem h
    omega
def priceD : PyData → Bool
  | .none => true
  | .int i => decide (0 < i) && decide (i < 100)
  | _ => false
def strD (x : Str) (d : PyData) : Bool := match d with
  | .str z => decide (z = x)
  | _ => false
theorem strD_iff {x : Str} {d : PyData} : strD x d = true ↔ d = .str x := by
  cases d <;> simp [strD]
/-- an entry -/
def entryD : PyData → Bool
  | .tuple [k, i, c] => wordD 6 true i && strD "query" k && cellsD 1 c
  | .tuple [k, i, r, s, p] => wordD 6 true i && strD "write" k && cellsD 0 r && cellsD 1 s && priceD p
  | _ => false
theorem entryD_no {d : PyData} (h : isD "tuple" d = false) : entryD d = false := by
  cases d with
  | tuple ds => exact absurd h (by simp [isD, tyN])
  | _ => rfl
theorem entryD_short {ds : List PyData} (h : ds.length < 3) : entryD (.tuple ds) = false := by
  match ds, h with
  | [], _ => rfl
  | [_], _ => rfl
  | [_, _], _ => rfl
theorem ixD {K : PySem.W.Frag} {ex : List Addr} {H : Hp} {a : Addr} {xs : List V} {ds : List PyData} {d : PyData} {j : Nat} {i : Int} {Q : VK} (ei : i = (j : Int)) (ha : H a = some (.tup xs)) (hx : RpAll ex H ds xs) (hj : ds[j]? = some d) (q : ∀ v, Rp ex H d v → Q v H) : rIxT K (.ref a) (.int i) H Q := by
  obtain ⟨v, hv, hr⟩ := RpAll.at hx hj
  subst ei
  exact ⟨a, xs, _, v, rfl, rfl, .inl (.inl ha), atI_nat hv, q v hr⟩
theorem entryD_word {k i c : PyData} {r : List PyData} (h : wordD 6 true i = false) : entryD (.tuple (k :: i :: c :: r)) = false := by
  match r with
  | [] => show (wordD 6 true i && strD "query" k && cellsD 1 c) = false; rw [h]; rfl
  | [_] => rfl
  | [s, p] => show (wordD 6 true i && strD "write" k && cellsD 0 c && cellsD 1 s && priceD p) = false; rw [h]; rfl
  | _ :: _ :: _ :: _ => rfl
theorem entryD_kind {k i c : PyData} {r : List PyData} (h1 : strD "query" k = false) (h2 : strD "write" k = false) : entryD (.tuple (k :: i :: c :: r)) = false := by
  match r with
  | [] => show (wordD 6 true i && strD "query" k && cellsD 1 c) = false; rw [h1]; simp
  | [_] => rfl
  | [s, p] => show (wordD 6 true i && strD "write" k && cellsD 0 c && cellsD 1 s && priceD p) = false; rw [h2]; simp
  | _ :: _ :: _ :: _ => rfl
theorem entryD_size {k i c : PyData} {r : List PyData} (h : r.length ≠ 0) (h2 : r.length ≠ 2) : entryD (.tuple (k :: i :: c :: r)) = false := by
  match r, h, h2 with
  | [_], _, _ => rfl
  | _ :: _ :: _ :: _, _, _ => rfl
theorem dec_v (a b : Str) : decide (V.str a = V.str b) = decide (a = b) := by simp
def intP : PyData → Bool
  | .int z => decide (0 < z) && decide (z < 100)
  | _ => false
theorem price_val {σ : L2.St} {H : Hp} {Q : VK} {p : PyData} {vp : V} {ex : List Addr} (rp : Rp ex H p vp) (h : σ[1]? = some (some vp)) (q : Q (.bl (intP p)) H) :
    tAndV (tCB (rIsD "int") (tCons (tVar 1) (tCons (tC (V.ty "int")) tNil))) (tAndV (tNotV (tCB (rIsD "bool") (tCons (tVar 1) (tCons (tC (V.ty "bool")) tNil)))) (tChain (rI0 fun i j => V.bl (decide (i < j))) (rI0 fun i j => V.bl (decide (i < j))) (tC (V.int 0)) (tVar 1) (tC (V.int 100)))) σ H Q := by
  refine ⟨vp, h, vp, p, ex, rfl, rp, _, rfl, ?_⟩
  cases p with
  | int z =>
    obtain rfl : vp = .int z := rp
    refine iteT ⟨.int z, h, .int z, .int z, ex, rfl, rfl, _, rfl, _, rfl, ?_⟩
    refine iteT ⟨_, h, 0, z, rfl, rfl, _, rfl, ?_⟩
    have e : intP (.int z) = (decide (0 < z) && decide (z < 100)) := rfl
    rw [e] at q
    cases h1 : decide (0 < z) with
    | true =>
      rw [h1] at q
      exact iteT ⟨z, 100, rfl, rfl, q⟩
    | false =>
      rw [h1] at q
      exact iteF q
  | bool b =>
    obtain rfl : vp = .bl b := rp
    refine iteT ⟨.bl b, h, .bl b, .bool b, ex, rfl, rfl, _, rfl, _, rfl, ?_⟩
    exact iteF q
  | none => exact iteF q
  | str z => exact iteF q
  | list ds => exact iteF q
  | tuple ds => exact iteF q
  | dict kvs => exact iteF q
theorem price_eq {p : PyData} {vp : V} {ex : List Addr} {H : Hp} (rp : Rp ex H p vp) : priceD p = (decide (vp = .non) || intP p) := by
  cases p with
  | none =>
    obtain rfl : vp = .non := rp
    rfl
  | int z =>
    obtain rfl : vp = .int z := rp
    simp [priceD, intP]
  | bool b =>
    obtain rfl : vp = .bl b := rp
    simp [priceD, intP]
  | str z =>
    obtain rfl : vp = .str z := rp
    simp [priceD, intP]
  | list ds =>
    obtain ⟨a, xs, rfl, _⟩ := rp
    simp [priceD, intP]
  | tuple ds =>
    obtain ⟨a, xs, rfl, _⟩ := rp
    simp [priceD, intP]
  | dict kvs =>
    obtain ⟨_, a, rfl, _⟩ := rp
    simp [priceD, intP]
end NV
/-! G5 -/
set_option Elab.async false
set_option linter.all false
set_option maxRecDepth 100000
set_option maxHeartbeats 400000
namespace NV
open PySem PySem.Spec PyProof.Rows L2
open C8 (pss_cut)
/-- the id of an entry -/
def idOfD : PyData → Str
  | .tuple (_ :: .str z :: _) => z
  | _ => ""
def logD' : PyData → Bool
  | .tuple ds => decide (ds.length ≤ 60) && ds.all entryD && decide ((ds.map idOfD).Nodup)
  | _ => false
theorem logD'_no {d : PyData} (h : isD "tuple" d = false) : logD' d = false := by
  cases d with
  | tuple ds => exact absurd h (by simp [isD, tyN])
  | _ => rfl
/-- what an entry looks like -/
theorem entry_shape {d : PyData} (h : entryD d = true) : ∃ k z r, d = .tuple (k :: .str z :: r) ∧ idB z = true := by
  have word : ∀ {i : PyData}, wordD 6 true i = true → ∃ z, i = .str z ∧ idB z = true := fun {i} hw => by
    cases i with
    | str z => exact ⟨z, rfl, hw⟩
    | _ => exact absurd hw (by simp [wordD])
  match d, h with
  | .tuple [k, i, c], h =>
    have h : (wordD 6 true i && strD "query" k && cellsD 1 c) = true := h
    simp only [Bool.and_eq_true] at h
    obtain ⟨z, rfl, hz⟩ := word h.1.1
    exact ⟨k, z, _, rfl, hz⟩
  | .tuple [k, i, r, s, p], h =>
    have h : (wordD 6 true i && strD "write" k && cellsD 0 r && cellsD 1 s && priceD p) = true := h
    simp only [Bool.and_eq_true] at h
    obtain ⟨z, rfl, hz⟩ := word h.1.1.1.1
    exact ⟨k, z, _, rfl, hz⟩
  | .tuple [], h => exact absurd h (by simp [entryD])
  | .tuple [_], h => exact absurd h (by simp [entryD])
  | .tuple [_, _], h => exact absurd h (by simp [entryD])
  | .tuple [_, _, _, _], h => exact absurd h (by simp [entryD])
  | .tuple (_ :: _ :: _ :: _ :: _ :: _ :: _), h => exact absurd h (by simp [entryD])
  | .none, h => exact absurd h (by simp [entryD])
  | .bool _, h => exact absurd h (by simp [entryD])
  | .int _, h => exact absurd h (by simp [entryD])
  | .str _, h => exact absurd h (by simp [entryD])
  | .list _, h => exact absurd h (by simp [entryD])
  | .dict _, h => exact absurd h (by simp [entryD])
end NV
/-! G6 -/
set_option Elab.async false
set_option linter.all false
set_option maxRecDepth 100000
set_option maxHeartbeats 600000
namespace NV
open PySem PySem.Spec PyProof.Rows L2
open C8 (pss_cut)
def oddDs : List PyData := [.none, .bool true, .bool false, .int 0, .int 1, .int 99, .int 100, .int (-1), .str "", .str "a", .str "A", .str "abcd", .str "abcde", .str "zzzzzz", .str "zzzzzzz", .str "a b", .str "1", .dict [],
  .str "write", .str "query", .tuple [], .tuple [.str "a"], .tuple [.str "a", .str "b"], .tuple [.str "b", .str "a"], .tuple [.str "a", .str "a"], .tuple [.str "a", .str "b", .str "c", .str "q"], .list [.str "a"], .int (10 ^ 30)]
theorem odd_ok : ∀ d ∈ oddDs, niceD d = true ∧ d.depth ≤ 1 ∧ vol d ≤ 200 := by decide +kernel
theorem RpAll.back {ex : List Addr} {H : Hp} : ∀ {ds : List PyData} {vs : List V} {j : Nat} {v : V}, RpAll ex H ds vs → vs[j]? = some v → ∃ d, ds[j]? = some d ∧ Rp ex H d v
  | [], _, j, v, h, hj => by
    subst h
    simp at hj
  | e :: ds, _, 0, v, ⟨u, ws, ev, h1, _⟩, hj => by
    subst ev
    simp at hj
    subst hj
    exact ⟨e, rfl, h1⟩
  | e :: ds, _, j + 1, v, ⟨u, ws, ev, _, h2⟩, hj => by
    subst ev
    obtain ⟨d, hd, hr⟩ := RpAll.back h2 (by simpa using hj)
    exact ⟨d, by simpa using hd, hr⟩
theorem rp_new {ex : List Addr} {H : Hp} {p : Addr} {xs : List V} {ds : List PyData} (hp : p ∉ ex) (np : H p = none) (h : RpAll ex H ds xs) : Rp ex (upd H p (.tup xs)) (.tuple ds) (.ref p) := ⟨p, xs, rfl, hp, upd_same, RpAll.keep (Kp.laid np) _ _ h⟩
theorem rp_newL {ex : List Addr} {H : Hp} {p : Addr} {xs : List V} {ds : List PyData} (hp : p ∉ ex) (np : H p = none) (h : RpAll ex H ds xs) : Rp ex (upd H p (.lst xs)) (.list ds) (.ref p) := ⟨p, xs, rfl, hp, upd_same, RpAll.keep (Kp.laid np) _ _ h⟩
end NV
/-! G7 -/
set_option Elab.async false
set_option linter.all false
set_option maxRecDepth 100000
set_option maxHeartbeats 600000
namespace NV
open PySem PySem.Spec PyProof.Rows L2
open C8 (pss_cut)
/-! ### () == t, slices, sums of tuples of any length -/
def rEqNilT (K : PySem.W.Frag) : R2 := fun x y H Q => ∃ (a b : Addr) (xs : List V), x = .ref a ∧ y = .ref b ∧ SqT K H a xs ∧ SqT K H b [] ∧ Q (.bl xs.isEmpty) H
theorem op_eqNilT {X : Cx} (K : PySem.W.Frag) (hu : X.A.units + 64 < cLine) (hK : X.K = K := by rfl) : OpR X (compareOp .Eq) (rEqNilT K) := by
  subst hK
  intro pins s σ H x y v u Q I rx ry h
  obtain ⟨a, b, xs, rfl, rfl, ha, hb, q⟩ := h
  obtain rfl : v = Value.ref a := rx
  obtain rfl : u = Value.ref b := ry
  obtain ⟨its, rv, pl, _⟩ := I.tuple ha
  obtain ⟨its2, rv2, pl2, _⟩ := I.tuple hb
  cases rv2
  refine SeqAt.eq_tupleAt (e := fun _ => true) pl pl2 (by omega) (fun j h1 h2 => absurd h2 (by simp)) ⟨.bl xs.isEmpty, H, I, ?_, q⟩
  show Value.bool _ = Value.bool _
  have hl := rv.length
  cases xs with
  | nil =>
    cases its with
    | nil => rfl
    | cons z zs => simp at hl
  | cons y ys =>
    cases its with
    | nil => simp at hl
    | cons z zs => simp
theorem no_part {σ : L2.St} {H : Hp} {Q : Option Int → Hp → Prop} (h : Q none H) : tNoPart σ H Q := h
theorem slA {K : PySem.W.Frag} {ex : List Addr} {H : Hp} {a : Addr} {xs : List V} {lo hi : Option Int} {Q : VK} (ha : H a = some (.tup xs)) (na : a ∉ ex) (fr : ∀ p, H p = none → p ∉ ex)
    (q : ∀ p H', Kp [] H H' → H' p = some (.tup (cutV xs lo hi)) → p ∉ ex → Q (.ref p) H') : rSlA K (.ref a) lo hi H Q := by
  refine ⟨a, xs, rfl, .inl (.inl ha), fun w => q a H Kp.refl ?_ na, fun w p np => q p _ (Kp.laid np) upd_same (fr p np)⟩
  unfold cutV
  rw [w.1, w.2, List.drop_zero, Nat.sub_zero, List.take_length]
  exact ha
theorem catA {K : PySem.W.Frag} {ex : List Addr} {H : Hp} {a b : Addr} {xs ys : List V} {Q : VK} (ha : H a = some (.tup xs)) (hb : H b = some (.tup ys)) (na : a ∉ ex) (nb : b ∉ ex) (fr : ∀ p, H p = none → p ∉ ex) (hz : xs.length + ys.length ≤ sizeLine)
    (q : ∀ p H', Kp [] H H' → H' p = some (.tup (xs ++ ys)) → p ∉ ex → Q (.ref p) H') : rCatA K (.ref a) (.ref b) H Q := by
  refine ⟨a, b, xs, ys, rfl, rfl, .inl (.inl ha), .inl (.inl hb), hz, fun e => ?_, fun _ e => ?_, fun _ _ p np => q p _ (Kp.laid np) upd_same (fr p np)⟩
  · subst e
    exact q b H Kp.refl hb nb
  · subst e
    exact q a H Kp.refl (by rw [List.append_nil]; exact ha) na
theorem cut_from (xs : List V) (k : Nat) : cutV xs (some (k : Int)) none = xs.drop k := by
  unfold cutV
  rw [HT.sIx_none, HT.sIx_nat]
  rcases Nat.le_total k xs.length with h | h
  · rw [Nat.min_eq_left h, List.take_of_length_le (by rw [List.length_drop]; omega)]
  · rw [Nat.min_eq_right h, List.drop_length, List.drop_eq_nil_of_le h]
    simp
theorem cut_after (xs : List V) (k : Nat) : cutV xs (some ((k : Int) + 1)) none = xs.drop (k + 1) := cut_from xs (k + 1)
theorem cut_one (xs : List V) (k : Nat) : cutV xs (some (k : Int)) (some ((k : Int) + 1)) = (xs.drop k).take 1 := by
  unfold cutV
  rw [show (k : Int) + 1 = ((k + 1 : Nat) : Int) by omega, HT.sIx_nat, HT.sIx_nat]
  rcases Nat.lt_or_ge k xs.length with h | h
  · rw [Nat.min_eq_left (by omega), Nat.min_eq_left (by omega)]
    congr 1
    omega
  · rw [Nat.min_eq_right h, Nat.min_eq_right (by omega), List.drop_length, List.drop_eq_nil_of_le h]
    simp
/-! ### data cut and put together -/
theorem RpAll.cutT {ex : List Addr} {H : Hp} : ∀ {ds : List PyData} {xs : List V} (k : Nat), RpAll ex H ds xs → RpAll ex H (ds.take k) (xs.take k) ∧ RpAll ex H (ds.drop k) (xs.drop k)
  | ds, xs, 0, h => by
    refine ⟨?_, ?_⟩
    · show RpAll ex H [] _
      rfl
    · simpa using h
  | [], _, k + 1, h => by
    subst h
    exact ⟨rfl, rfl⟩
  | d :: ds, _, k + 1, ⟨v, ws, e, h1, h2⟩ => by
    subst e
    obtain ⟨a, b⟩ := RpAll.cutT k h2
    exact ⟨⟨v, ws.take k, rfl, h1, a⟩, b⟩
theorem nice_of_mem : ∀ {ds : List PyData}, (∀ d ∈ ds, niceD d = true) → niceAll ds = true
  | [], _ => by simp only [niceAll]
  | d :: ds, h => by
    simp only [niceAll, Bool.and_eq_true]
    exact ⟨h d List.mem_cons_self, nice_of_mem fun e he => h e (List.mem_cons_of_mem _ he)⟩
theorem depth_of_mem {m : Nat} : ∀ {ds : List PyData}, (∀ d ∈ ds, d.depth ≤ m) → PyData.depthAll ds ≤ m
  | [], _ => by simp only [PyData.depthAll]; omega
  | d :: ds, h => by
    simp only [PyData.depthAll]
    exact Nat.max_le.mpr ⟨h d List.mem_cons_self, depth_of_mem fun e he => h e (List.mem_cons_of_mem _ he)⟩
theorem vol_app : ∀ (ds es : List PyData), volAll (ds ++ es) = volAll ds + volAll es
  | [], es => by simp only [List.nil_append, volAll]; omega
  | d :: ds, es => by
    simp only [List.cons_append, volAll, vol_app ds es]
    omega
theorem vol_cut (ds : List PyData) (k : Nat) : volAll (ds.take k) + volAll (ds.drop k) = volAll ds := by
  rw [← vol_app, List.take_append_drop]
theorem vol_at {ds : List PyData} {k : Nat} {d : PyData} (h : ds[k]? = some d) : volAll (ds.drop k) = vol d + 2 + volAll (ds.drop (k + 1)) := by
  obtain ⟨hk, rfl⟩ := List.getElem?_eq_some_iff.mp h
  rw [List.drop_eq_getElem_cons hk]
  simp only [volAll]
theorem len_vol : ∀ ds : List PyData, ds.length ≤ volAll ds
  | [] => Nat.zero_le _
  | d :: ds => by
    have := len_vol ds
    simp only [volAll, List.length_cons]
    omega
end NV
/-! L8 -/
set_option Elab.async false
set_option linter.all false
set_option maxRecDepth 100000
set_option maxHeartbeats 600000
/-! what the law's logs are as data -/
namespace NV
open PySem PySem.Spec PyProof.Rows L2
theorem texts_map : ∀ zs : List Str, textsOf (zs.map PyData.str) = zs
  | [] => rfl
  | z :: zs => by
    show z :: textsOf (zs.map PyData.str) = _
    rw [texts_map zs]
theorem cells_data {l : Nat} {cs : List Str} (h : CellsOk l cs) : cellsD l (.tuple (cs.map .str)) = true := by
  show (decide (l ≤ (cs.map PyData.str).length) && decide ((cs.map PyData.str).length ≤ 3) && (cs.map PyData.str).all (wordD 4 false) && decide (Asc (textsOf (cs.map PyData.str)))) = true
  rw [texts_map, List.length_map, decide_eq_true h.lo, decide_eq_true h.hi, decide_eq_true h.asc, Bool.and_true, Bool.true_and, Bool.true_and, List.all_eq_true]
  intro d hd
  obtain ⟨z, hz, rfl⟩ := List.mem_map.mp hd
  exact h.ok z hz
theorem entry_data {e : Ent} (h : e.Ok) : entryD e.data = true := by
  cases e with
  | wr id rs ws pr =>
    obtain ⟨h1, h2, h3, h4⟩ := h
    show (wordD 6 true (.str id) && strD "write" (.str "write") && cellsD 0 (.tuple (rs.map .str)) && cellsD 1 (.tuple (ws.map .str)) && priceD (prD pr)) = true
    have hp : priceD (prD pr) = true := by
      cases pr with
      | none => rfl
      | some i =>
        obtain ⟨a, b⟩ := h4 i rfl
        show (decide (0 < i) && decide (i < 100)) = true
        simp
        omega
    rw [cells_data h2, cells_data h3, hp, show wordD 6 true (.str id) = true from h1, strD_iff.mpr rfl]
    rfl
  | qu id cs =>
    obtain ⟨h1, h2⟩ := h
    show (wordD 6 true (.str id) && strD "query" (.str "query") && cellsD 1 (.tuple (cs.map .str))) = true
    rw [cells_data h2, show wordD 6 true (.str id) = true from h1, strD_iff.mpr rfl]
    rfl
theorem id_data (e : Ent) : idOfD e.data = e.id := by cases e <;> rfl
theorem ids_data (es : List Ent) : (es.map Ent.data).map idOfD = es.map Ent.id := by
  rw [List.map_map]
  exact List.map_congr_left fun e _ => id_data e
/-- a list of right entries is a log if few and of different ids -/
theorem log_data {es : List Ent} (h : ∀ e ∈ es, e.Ok) : logD' (.tuple (es.map Ent.data)) = (decide (es.length ≤ 60) && decide ((es.map Ent.id).Nodup)) := by
  show (decide ((es.map Ent.data).length ≤ 60) && (es.map Ent.data).all entryD && decide (((es.map Ent.data).map idOfD).Nodup)) = _
  have e2 : (es.map Ent.data).all entryD = true := by
    rw [List.all_eq_true]
    intro d hd
    obtain ⟨e, he, rfl⟩ := List.mem_map.mp hd
    exact entry_data (h e he)
  rw [ids_data, e2, Bool.and_true, List.length_map]
theorem word_len {m : Nat} {b : Bool} {z : Str} (h : wordB m b z = true) : z.length ≤ m ∧ PyData.strOk z = true := by
  have h : (decide (1 ≤ z.cps.size) && decide (z.cps.size ≤ m) && z.cps.toList.all (isSign b)) = true := h
  simp only [Bool.and_eq_true, decide_eq_true_eq, List.all_eq_true] at h
  refine ⟨h.1.2, ?_⟩
  unfold PyData.strOk
  rw [Array.all_eq_true_iff_forall_mem]
  intro c hc
  have := h.2 c (by simpa using hc)
  unfold isSign at this
  simp at this
  simp
  omega
theorem nice_word {m : Nat} {b : Bool} {z : Str} (hm : m ≤ 100) (h : wordB m b z = true) : niceD (.str z) = true := by
  obtain ⟨h1, h2⟩ := word_len h
  simp only [niceD, Bool.and_eq_true, decide_eq_true_eq]
  exact ⟨by omega, h2⟩
theorem cells_nice {l : Nat} {cs : List Str} (h : CellsOk l cs) : niceD (.tuple (cs.map .str)) = true ∧ PyData.depth (.tuple (cs.map .str)) ≤ 1 ∧ vol (.tuple (cs.map .str)) ≤ 135 := by
  refine ⟨?_, ?_, ?_⟩
  · simp only [niceD]
    refine nice_of_mem fun d hd => ?_
    obtain ⟨z, hz, rfl⟩ := List.mem_map.mp hd
    exact nice_word (by decide) (h.ok z hz)
  · simp only [PyData.depth]
    have := depth_of_mem (m := 0) (ds := cs.map PyData.str) fun d hd => by
      obtain ⟨z, hz, rfl⟩ := List.mem_map.mp hd
      simp [PyData.depth]
    omega
  · have : ∀ zs : List Str, (∀ z ∈ zs, cellB z = true) → volAll (zs.map PyData.str) ≤ 44 * zs.length := by
      intro zs
      induction zs with
      | nil => intro _; simp [volAll]
      | cons z zs ih =>
        intro hz
        have h1 := (word_len (hz z List.mem_cons_self)).1
        have h2 := ih fun y hy => hz y (List.mem_cons_of_mem _ hy)
        simp only [List.map_cons, volAll, vol, List.length_cons]
        omega
    have h3 := this cs h.ok
    have h4 := h.hi
    simp only [vol]
    omega
theorem entry_nice {e : Ent} (h : e.Ok) : niceD e.data = true ∧ e.data.depth ≤ 2 ∧ vol e.data ≤ 410 := by
  cases e with
  | wr id rs ws pr =>
    obtain ⟨h1, h2, h3, h4⟩ := h
    obtain ⟨a1, a2, a3⟩ := cells_nice h2
    obtain ⟨b1, b2, b3⟩ := cells_nice h3
    have i1 := nice_word (by decide) h1
    have i2 := (word_len h1).1
    have p : niceD (prD pr) = true ∧ (prD pr).depth = 0 ∧ vol (prD pr) ≤ 10 := by
      cases pr with
      | none => simp [prD, niceD, PyData.depth, vol]
      | some i =>
        obtain ⟨a, b⟩ := h4 i rfl
        have : i.natAbs.log2 < 7 := (Nat.log2_lt (by omega)).mpr (by omega)
        simp only [prD, niceD, PyData.depth, vol, decide_eq_true_eq]
        exact ⟨by omega, trivial, by omega⟩
    obtain ⟨p1, p2, p3⟩ := p
    refine ⟨?_, ?_, ?_⟩
    · show niceD (.tuple [.str "write", .str id, .tuple (rs.map .str), .tuple (ws.map .str), prD pr]) = true
      have w1 : niceD (.str "write") = true := by decide +kernel
      simp only [niceD, niceAll] at a1 b1 i1 w1 ⊢
      rw [a1, b1, i1, w1, p1]
      rfl
    · show PyData.depth (.tuple [.str "write", .str id, .tuple (rs.map .str), .tuple (ws.map .str), prD pr]) ≤ 2
      simp only [PyData.depth, PyData.depthAll] at a2 b2 ⊢
      omega
    · show vol (.tuple [.str "write", .str id, .tuple (rs.map .str), .tuple (ws.map .str), prD pr]) ≤ 410
      have w1 : vol (.str "write") = 52 := by decide
      have w2 : vol (.str id) ≤ 62 := by simp only [vol]; omega
      simp only [vol, volAll] at a3 b3 w1 w2 ⊢
      omega
  | qu id cs =>
    obtain ⟨h1, h2⟩ := h
    obtain ⟨a1, a2, a3⟩ := cells_nice h2
    have i1 := nice_word (by decide) h1
    have i2 := (word_len h1).1
    refine ⟨?_, ?_, ?_⟩
    · show niceD (.tuple [.str "query", .str id, .tuple (cs.map .str)]) = true
      have w1 : niceD (.str "query") = true := by decide +kernel
      simp only [niceD, niceAll] at a1 i1 w1 ⊢
      rw [a1, i1, w1]
      rfl
    · show PyData.depth (.tuple [.str "query", .str id, .tuple (cs.map .str)]) ≤ 2
      simp only [PyData.depth, PyData.depthAll] at a2 ⊢
      omega
    · show vol (.tuple [.str "query", .str id, .tuple (cs.map .str)]) ≤ 410
      have w1 : vol (.str "query") = 52 := by decide
      have w2 : vol (.str id) ≤ 62 := by simp only [vol]; omega
      simp only [vol, volAll] at a3 w1 w2 ⊢
      omega
theorem log_nice {es : List Ent} (h : ∀ e ∈ es, e.Ok) : niceD (.tuple (es.map Ent.data)) = true ∧ PyData.depth (.tuple (es.map Ent.data)) ≤ 3 ∧ vol (.tuple (es.map Ent.data)) ≤ 412 * es.length + 3 := by
  refine ⟨?_, ?_, ?_⟩
  · simp only [niceD]
    refine nice_of_mem fun d hd => ?_
    obtain ⟨e, he, rfl⟩ := List.mem_map.mp hd
    exact (entry_nice (h e he)).1
  · simp only [PyData.depth]
    have := depth_of_mem (m := 2) (ds := es.map Ent.data) fun d hd => by
      obtain ⟨e, he, rfl⟩ := List.mem_map.mp hd
      exact (entry_nice (h e he)).2.1
    omega
  · simp only [vol]
    have : ∀ l : List Ent, (∀ e ∈ l, e.Ok) → volAll (l.map Ent.data) ≤ 412 * l.length := by
      intro l
      induction l with
      | nil => intro _; simp [volAll]
      | cons e l ih =>
        intro hl
        have h1 := (entry_nice (hl e List.mem_cons_self)).2.2
        have h2 := ih fun y hy => hl y (List.mem_cons_of_mem _ hy)
        simp only [List.map_cons, volAll, List.length_cons]
        omega
    have := this es h
    omega
/-- the first entry put in place of the one at k: a log only where it was there -/
theorem dup_ids {es : List Ent} {k : Nat} (nd : (es.map Ent.id).Nodup) (hk : k < es.length) : ((es.take k ++ es.take 1 ++ es.drop (k + 1)).map Ent.id).Nodup ↔ k = 0 := by
  cases es with
  | nil => simp at hk
  | cons x l =>
    constructor
    · intro h
      cases k with
      | zero => rfl
      | succ k =>
        exfalso
        simp only [List.take_succ_cons, List.take_zero, List.cons_append, List.map_cons, List.nodup_cons] at h
        refine h.1 ?_
        simp
    · intro e
      subst e
      simpa using nd
end NV
/-! TxtId -/
set_option Elab.async false
set_option linter.all false
set_option maxRecDepth 100000
set_option maxHeartbeats 600000
/-! an id by isascii, isalnum, lower; a cell by isalpha -/
namespace NV
open PySem PySem.Spec PyProof.Rows L2
def lowA (c : Nat) : Nat := if 65 ≤ c && c ≤ 90 then c + 32 else c
theorem lowerOf_ascii : ∀ c, c < 128 → Unicode.lowerOf c = [lowA c] := by decide +kernel
theorem alnum_ascii : ∀ c, c < 128 → (Unicode.isAlnum c && decide (lowA c = c)) = isSign true c := by decide +kernel
theorem alpha_ascii : ∀ c, c < 128 → isSign true c = true → Unicode.isAlpha c = isSign false c := by decide +kernel
theorem sign_small {b : Bool} {c : Nat} (h : isSign b c = true) : c < 128 := by
  unfold isSign at h
  simp only [Bool.or_eq_true, Bool.and_eq_true, decide_eq_true_eq] at h
  omega
theorem lower_list {z : Str} (h : ∀ c ∈ z.cps.toList, c < 128) : (Txt.lower z).cps.toList = z.cps.toList.map lowA := by
  show (z.cps.mapIdx fun i c => (Unicode.lowerAt z.cps i).toArray).flatten.toList = _
  rw [Array.toList_flatten, Array.toList_mapIdx]
  have e : ∀ i (hi : i < z.cps.toList.length), Unicode.lowerAt z.cps i = [lowA z.cps.toList[i]] := fun i hi => by
    have hi' : i < z.cps.size := by simpa using hi
    have hc := h _ (List.getElem_mem hi)
    unfold Unicode.lowerAt
    rw [Array.getElem?_eq_getElem hi']
    have e2 : z.cps[i] = z.cps.toList[i] := by simp
    rw [e2]
    dsimp only
    rw [if_neg, lowerOf_ascii _ hc]
    intro q
    rw [Bool.and_eq_true, beq_iff_eq] at q
    rw [q.1] at hc
    exact absurd hc (by decide)
  have e3 : (z.cps.toList.mapIdx fun i c => (Unicode.lowerAt z.cps i).toArray).map Array.toList = z.cps.toList.map fun c => [lowA c] := by
    refine List.ext_getElem (by simp) fun i h1 h2 => ?_
    have hi : i < z.cps.toList.length := by simpa using h1
    rw [List.getElem_map, List.getElem_mapIdx, List.getElem_map]
    rw [e i hi]
  rw [e3]
  generalize z.cps.toList = l
  induction l with
  | nil => rfl
  | cons a l ih => rw [List.map_cons, List.flatten_cons, ih]; rfl
theorem map_same : ∀ {l : List Nat}, l = l.map lowA ↔ l.all (fun c => decide (lowA c = c)) = true
  | [] => by simp
  | a :: l => by
    rw [List.map_cons, List.all_cons, Bool.and_eq_true, decide_eq_true_eq, ← map_same (l := l)]
    constructor
    · intro e
      injection e with e1 e2
      exact ⟨e1.symm, e2⟩
    · rintro ⟨e1, e2⟩
      rw [e1, ← e2]
theorem id_text {z : Str} (h : 1 ≤ z.length) : (Txt.isascii z && (Txt.isalnum z && decide (V.str z = V.str (Txt.lower z)))) = z.cps.toList.all (isSign true) := by
  have ea : Txt.isascii z = z.cps.toList.all (fun c => decide (c < 128)) := by
    show z.cps.all _ = _
    rw [← Array.all_toList]
  rw [ea]
  cases h1 : z.cps.toList.all (fun c => decide (c < 128)) with
  | false =>
    rw [Bool.false_and]
    symm
    rw [← Bool.not_eq_true, List.all_eq_true] at h1 ⊢
    exact fun q => h1 fun c hc => decide_eq_true (sign_small (q c hc))
  | true =>
    have hs : ∀ c ∈ z.cps.toList, c < 128 := fun c hc => of_decide_eq_true (List.all_eq_true.mp h1 c hc)
    have el : Txt.isalnum z = z.cps.toList.all Unicode.isAlnum := by
      show (decide (z.length > 0) && z.cps.all _) = _
      rw [decide_eq_true (show z.length > 0 by omega), Bool.true_and, ← Array.all_toList]
    have eq : decide (V.str z = V.str (Txt.lower z)) = z.cps.toList.all (fun c => decide (lowA c = c)) := by
      rw [Bool.eq_iff_iff, decide_eq_true_eq, ← map_same, ← lower_list hs]
      constructor
      · intro e
        injection e with e
        exact congrArg (fun y : Str => y.cps.toList) e
      · intro e
        exact congrArg V.str (ext_toList e)
    rw [Bool.true_and, el, eq]
    generalize z.cps.toList = l at hs ⊢
    induction l with
    | nil => rfl
    | cons a l ih =>
      have hd := alnum_ascii a (hs a List.mem_cons_self)
      have tl := ih fun c hc => hs c (List.mem_cons_of_mem _ hc)
      rw [List.all_cons, List.all_cons, List.all_cons, ← hd, ← tl]
      cases Unicode.isAlnum a <;> cases decide (lowA a = a) <;> simp
theorem alpha_text {z : Str} (h : 1 ≤ z.length) (hs : z.cps.toList.all (isSign true) = true) : Txt.isalpha z = z.cps.toList.all (isSign false) := by
  show (decide (z.length > 0) && z.cps.all _) = _
  rw [decide_eq_true (show z.length > 0 by omega), Bool.true_and, ← Array.all_toList]
  have hs := List.all_eq_true.mp hs
  generalize z.cps.toList = l at hs ⊢
  induction l with
  | nil => rfl
  | cons a l ih =>
    have q := hs a List.mem_cons_self
    rw [List.all_cons, List.all_cons, alpha_ascii a (sign_small q) q, ih fun c hc => hs c (List.mem_cons_of_mem _ hc)]
theorem all_weak {z : Str} (h : z.cps.toList.all (isSign false) = true) : z.cps.toList.all (isSign true) = true := by
  rw [List.all_eq_true] at h ⊢
  intro c hc
  have := h c hc
  unfold isSign at this ⊢
  simp only [Bool.or_eq_true, Bool.and_eq_true, decide_eq_true_eq, Bool.false_eq_true, false_and, or_false] at this
  simp only [Bool.or_eq_true, Bool.and_eq_true, decide_eq_true_eq]
  exact .inl this
end NV
/-! Q1 -/
set_option Elab.async false
set_option linter.all false
set_option maxRecDepth 100000
set_option maxHeartbeats 600000
/-! the package's is_integer_within, is_price, is_id, is_cell -/
namespace NV
open PySem PySem.Spec PyProof.Rows L2
open C8 (pss_cut pe_gc)
abbrev sIsIntegerWithin : Stmt := topS 22
theorem scIsIntegerWithin : FnScope ["value", "lowest", "highest"] ["value", "lowest", "highest"] (defScope sIsIntegerWithin) := ⟨rfl, rfl, rfl, by decide +kernel, rfl, by decide +kernel, by decide +kernel⟩
abbrev sIsId : Stmt := topS 23
theorem scIsId : FnScope ["value"] ["value"] (defScope sIsId) := ⟨rfl, rfl, rfl, by decide +kernel, rfl, by decide +kernel, by decide +kernel⟩
abbrev sIsCell : Stmt := topS 24
theorem scIsCell : FnScope ["value"] ["value"] (defScope sIsCell) := ⟨rfl, rfl, rfl, by decide +kernel, rfl, by decide +kernel, by decide +kernel⟩
abbrev sIsPrice : Stmt := topS 26
theorem scIsPrice : FnScope ["value"] ["value"] (defScope sIsPrice) := ⟨rfl, rfl, rfl, by decide +kernel, rfl, by decide +kernel, by decide +kernel⟩
/-- an int from lo to hi -/
def withinD (lo hi : Int) : PyData → Bool
  | .int i => decide (lo ≤ i) && decide (i ≤ hi)
  | _ => false
def spWithin : Sp := fun vs H Q _ => ∃ (v : V) (d : PyData) (ex : List Addr) (lo hi : Int), vs = [v, .int lo, .int hi] ∧ Rp ex H d v ∧ Q (.bl (withinD lo hi d)) H
/-- a predicate of data, asked by a def that leaves the memory as it is -/
def spIs (f : PyData → Bool) : Sp := fun vs H Q _ => ∃ (v : V) (d : PyData) (ex : List Addr), vs = [v] ∧ Rp ex H d v ∧ niceD d = true ∧ Q (.bl (f d)) H
theorem int_or {d : PyData} (h : isD "int" d = true) : (∃ i, d = .int i) ∨ ∃ b, d = .bool b := by
  cases d with
  | int i => exact .inl ⟨i, rfl⟩
  | bool b => exact .inr ⟨b, rfl⟩
  | _ => exact absurd h (by simp [isD, tyN])
section
variable {P : Program} {w : World} {K : PySem.W.Frag} {mg : Str → Option Value} {base : Heap}
theorem ok_pwithin (DIsIntegerWithin : Fn K mg "is_integer_within" sIsIntegerWithin ["value", "lowest", "highest"]) (b_isinstance : mg "isinstance" = none) (b_int : mg "int" = none) (b_bool : mg "bool" = none) :
    FnOk P w K mg base CX0 1 DIsIntegerWithin.f DIsIntegerWithin.fd ["value", "lowest", "highest"] spWithin := by
  refine DIsIntegerWithin.F.ok scIsIntegerWithin (fun vs H Q E h => ?_) (fun cdv A outer s H vs Q E hr h => ?_)
  · obtain ⟨v, d, ex, lo, hi, rfl, _⟩ := h
    rfl
  obtain ⟨v, d, ex, lo, hi, rfl, hd, q⟩ := h
  refine ⟨_, pss_one (ps_ret (pe_and (pe_callB (cr_isD (T := "int") (by decide)) (by rfl) b_isinstance (by decide +kernel) (pa_cons (pv 0) (pa_cons (pe_bltn (v := .ty "int") rfl b_int (by rfl) rfl) pa_nil))) (pe_and (pe_not (pe_callB (cr_isD (T := "bool") (by decide)) (by rfl) b_isinstance (by decide +kernel) (pa_cons (pv 0) (pa_cons (pe_bltn (v := .ty "bool") rfl b_bool (by rfl) rfl) pa_nil)))) (pe_one (pe_chain op_le op_le (pv 1) (pv 0) (pv 2)))))), ?_⟩
  refine ⟨_, rfl, v, d, ex, rfl, hd, _, rfl, ?_⟩
  cases hs : isD "int" d with
  | false =>
    refine iteF ?_
    have e : withinD lo hi d = false := by
      cases d with
      | int i => exact absurd hs (by simp [isD, tyN])
      | _ => rfl
    rw [← e]
    exact q
  | true =>
    refine iteT ⟨_, rfl, v, d, ex, rfl, hd, _, rfl, _, rfl, ?_⟩
    rcases int_or hs with ⟨i, rfl⟩ | ⟨b, rfl⟩
    · obtain rfl : v = .int i := hd
      refine iteT ⟨_, rfl, _, rfl, lo, i, rfl, rfl, _, rfl, ?_⟩
      have e : withinD lo hi (.int i) = (decide (lo ≤ i) && decide (i ≤ hi)) := rfl
      rw [e] at q
      cases h1 : decide (lo ≤ i) with
      | true =>
        rw [h1] at q
        exact iteT ⟨_, rfl, i, hi, rfl, rfl, q⟩
      | false =>
        rw [h1] at q
        exact iteF q
    · exact iteF q
theorem ok_pprice (DIsPrice : Fn K mg "is_price" sIsPrice ["value"]) (DIsIntegerWithin : Fn K mg "is_integer_within" sIsIntegerWithin ["value", "lowest", "highest"]) (g1 : ∃ u, mg "HIGHEST_PRICE" = some u ∧ L2.RelV (.int 99) u)
    (GIsIntegerWithin : FnOk P w K mg base CX0 1 DIsIntegerWithin.f DIsIntegerWithin.fd ["value", "lowest", "highest"] spWithin) : FnOk P w K mg base CX0 2 DIsPrice.f DIsPrice.fd ["value"] (spIs priceD) := by
  refine DIsPrice.F.ok scIsPrice (fun vs H Q E h => ?_) (fun cdv A outer s H vs Q E hr h => ?_)
  · obtain ⟨v, d, ex, rfl, _⟩ := h
    rfl
  obtain ⟨v, d, ex, rfl, hd, hn, q⟩ := h
  refine ⟨_, pss_one (ps_ret (pe_or (pe_cmpR op_isN (pv 0) pe_non (nomark _)) (pe_one (pe_fn DIsIntegerWithin GIsIntegerWithin hr (pa_cons (pv 0) (pa_cons pe_int (pa_cons (pe_gc (v := .int 99) rfl g1) pa_nil))))))), ?_⟩
  refine ⟨_, rfl, rfl, _, rfl, ?_⟩
  have e : priceD d = (decide (v = .non) || withinD 1 99 d) := by
    cases d with
    | none =>
      obtain rfl : v = .non := hd
      rfl
    | int i =>
      obtain rfl : v = .int i := hd
      show (decide (0 < i) && decide (i < 100)) = (decide (V.int i = V.non) || (decide (1 ≤ i) && decide (i ≤ 99)))
      rw [decide_eq_false (show ¬ V.int i = V.non from nofun), Bool.false_or]
      congr 1 <;> rw [decide_eq_decide] <;> omega
    | bool b =>
      obtain rfl : v = .bl b := hd
      rfl
    | str z =>
      obtain rfl : v = .str z := hd
      rfl
    | list ds =>
      obtain ⟨a, xs, rfl, _⟩ := hd
      rfl
    | tuple ds =>
      obtain ⟨a, xs, rfl, _⟩ := hd
      rfl
    | dict kvs =>
      obtain ⟨_, a, rfl, _⟩ := hd
      rfl
  rw [e] at q
  cases h : decide (v = V.non) with
  | true =>
    rw [h, Bool.true_or] at q
    exact iteT q
  | false =>
    rw [h, Bool.false_or] at q
    exact iteF ⟨_, rfl, v, d, ex, 1, 99, rfl, hd, q⟩
theorem ok_pid (DIsId : Fn K mg "is_id" sIsId ["value"]) (b_isinstance : mg "isinstance" = none) (b_len : mg "len" = none) (b_str : mg "str" = none) (g1 : ∃ u, mg "LONGEST_ID" = some u ∧ L2.RelV (.int 6) u) :
    FnOk P w K mg base CX0 1 DIsId.f DIsId.fd ["value"] (spIs (wordD 6 true)) := by
  refine DIsId.F.ok scIsId (fun vs H Q E h => ?_) (fun cdv A outer s H vs Q E hr h => ?_)
  · obtain ⟨v, d, ex, rfl, _⟩ := h
    rfl
  obtain ⟨v, d, ex, rfl, hd, hn, q⟩ := h
  refine ⟨_, pss_cons (ps_if (PW.pt (pw_or (pt_not (pt_val (pe_callB (cr_isD (T := "str") (by decide)) (by rfl) b_isinstance (by decide +kernel) (pa_cons (pv 0) (pa_cons (pe_bltn (v := .ty "str") rfl b_str (by rfl) rfl) pa_nil))))) (pw_or1 (pt_not (pt_chain op_le op_le pe_int (pe_callB (lenVE K) (by rfl) b_len (by decide +kernel) (pa_cons (pv 0) pa_nil)) (pe_gc (v := .int 6) rfl g1))))))
      (pss_one (ps_ret pe_bl))
      pss_nil)
      (pss_one (ps_ret (pe_and (pe_m0 F.slot_str_isascii F.type_str_isascii mt_isascii (pv 0)) (pe_and (pe_m0 F.slot_str_isalnum F.type_str_isalnum mt_isalnum (pv 0)) (pe_one (pe_cmpR op_eq (pv 0) (pe_lower (pv 0)) (nomark _))))))), ?_⟩
  refine ⟨_, rfl, v, d, ex, rfl, hd, _, rfl, ?_⟩
  cases hs : isD "str" d with
  | false =>
    refine iteT ?_
    rw [← wordD_no (m := 6) (b := true) hs]
    exact q
  | true =>
    obtain ⟨z, rfl⟩ := str_of_isD hs
    obtain rfl : v = .str z := hd
    obtain ⟨hz1, hz2⟩ := nice_str hn
    refine iteF ?_
    refine ⟨_, rfl, .str z, z.length, rfl, ⟨Nat.le_of_lt (small1000 (by omega)), rfl⟩, ?_⟩
    have wd : wordD 6 true (.str z) = (decide (1 ≤ z.length) && decide (z.length ≤ 6) && z.cps.toList.all (isSign true)) := rfl
    refine ⟨1, (z.length : Int), rfl, rfl, _, rfl, ?_⟩
    by_cases h1 : (1 : Int) ≤ (z.length : Int)
    · rw [decide_eq_true h1]
      refine iteT ⟨(z.length : Int), 6, rfl, rfl, _, rfl, ?_⟩
      by_cases h2 : (z.length : Int) ≤ 6
      · rw [decide_eq_true h2]
        refine iteF ?_
        rw [wd, decide_eq_true (show 1 ≤ z.length by omega), decide_eq_true (show z.length ≤ 6 by omega), Bool.true_and, Bool.true_and, ← id_text (by omega)] at q
        refine ⟨_, rfl, ⟨_, rfl⟩, z, rfl, rfl, trivial, _, rfl, ?_⟩
        cases ha : Txt.isascii z with
        | false =>
          rw [ha, Bool.false_and] at q
          exact iteF q
        | true =>
          rw [ha, Bool.true_and] at q
          refine iteT ⟨_, rfl, ⟨_, rfl⟩, z, rfl, rfl, trivial, _, rfl, ?_⟩
          cases hb : Txt.isalnum z with
          | false =>
            rw [hb, Bool.false_and] at q
            exact iteF q
          | true =>
            rw [hb, Bool.true_and] at q
            exact iteT ⟨_, rfl, _, rfl, ⟨_, rfl⟩, z, rfl, rfl, by omega, rfl, q⟩
      · rw [decide_eq_false h2]
        refine iteT ?_
        rw [wd, decide_eq_false (show ¬ z.length ≤ 6 by omega), Bool.and_false, Bool.false_and] at q
        exact q
    · rw [decide_eq_false h1]
      refine iteF ⟨_, rfl, iteT ?_⟩
      rw [wd, decide_eq_false (show ¬ 1 ≤ z.length by omega), Bool.false_and, Bool.false_and] at q
      exact q
theorem ok_pcell (DIsCell : Fn K mg "is_cell" sIsCell ["value"]) (DIsId : Fn K mg "is_id" sIsId ["value"]) (b_len : mg "len" = none) (g1 : ∃ u, mg "LONGEST_CELL" = some u ∧ L2.RelV (.int 4) u)
    (GIsId : FnOk P w K mg base CX0 1 DIsId.f DIsId.fd ["value"] (spIs (wordD 6 true))) : FnOk P w K mg base CX0 2 DIsCell.f DIsCell.fd ["value"] (spIs (wordD 4 false)) := by
  refine DIsCell.F.ok scIsCell (fun vs H Q E h => ?_) (fun cdv A outer s H vs Q E hr h => ?_)
  · obtain ⟨v, d, ex, rfl, _⟩ := h
    rfl
  obtain ⟨v, d, ex, rfl, hd, hn, q⟩ := h
  refine ⟨_, pss_one (ps_ret (pe_and (pe_fn DIsId GIsId hr (pa_cons (pv 0) pa_nil)) (pe_and (pe_cmpR op_le (pe_callB (lenVE K) (by rfl) b_len (by decide +kernel) (pa_cons (pv 0) pa_nil)) (pe_gc (v := .int 4) rfl g1) (nomark _)) (pe_one (pe_m0 F.slot_str_isalpha F.type_str_isalpha mt_isalpha (pv 0)))))), ?_⟩
  refine ⟨_, rfl, v, d, ex, rfl, hd, hn, _, rfl, ?_⟩
  cases hw : wordD 6 true d with
  | false =>
    refine iteF ?_
    have e : wordD 4 false d = false := by
      cases d with
      | str z =>
        rw [← Bool.not_eq_true]
        intro h
        have h : (decide (1 ≤ z.length) && decide (z.length ≤ 4) && z.cps.toList.all (isSign false)) = true := h
        rw [Bool.and_eq_true, Bool.and_eq_true, decide_eq_true_eq, decide_eq_true_eq] at h
        have : wordD 6 true (.str z) = true := by
          show (decide (1 ≤ z.length) && decide (z.length ≤ 6) && z.cps.toList.all (isSign true)) = true
          rw [decide_eq_true h.1.1, decide_eq_true (show z.length ≤ 6 by omega), all_weak h.2]
          rfl
        rw [hw] at this
        cases this
      | _ => rfl
    rw [← e]
    exact q
  | true =>
    obtain ⟨z, rfl⟩ : ∃ z, d = .str z := by
      cases d with
      | str z => exact ⟨z, rfl⟩
      | _ => cases hw
    obtain rfl : v = .str z := hd
    obtain ⟨hz1, hz2⟩ := nice_str hn
    have hw : (decide (1 ≤ z.length) && decide (z.length ≤ 6) && z.cps.toList.all (isSign true)) = true := hw
    rw [Bool.and_eq_true, Bool.and_eq_true, decide_eq_true_eq, decide_eq_true_eq] at hw
    obtain ⟨⟨w1, w2⟩, w3⟩ := hw
    have e : wordD 4 false (.str z) = (decide ((z.length : Int) ≤ 4) && Txt.isalpha z) := by
      show (decide (1 ≤ z.length) && decide (z.length ≤ 4) && z.cps.toList.all (isSign false)) = _
      rw [decide_eq_true w1, Bool.true_and, alpha_text w1 w3]
      congr 1
      rw [decide_eq_decide]
      omega
    rw [e] at q
    refine iteT ⟨_, rfl, .str z, z.length, rfl, ⟨Nat.le_of_lt (small1000 (by omega)), rfl⟩, (z.length : Int), 4, rfl, rfl, _, rfl, ?_⟩
    cases h4 : decide ((z.length : Int) ≤ 4) with
    | false =>
      rw [h4, Bool.false_and] at q
      exact iteF q
    | true =>
      rw [h4, Bool.true_and] at q
      exact iteT ⟨_, rfl, ⟨_, rfl⟩, z, rfl, rfl, trivial, q⟩
end
end NV
/-! Q2 -/
set_option Elab.async false
set_option linter.all false
set_option maxRecDepth 100000
set_option maxHeartbeats 600000
/-! the package's is_cells: cells found before stand in the dict known -/
namespace NV
open PySem PySem.Spec PyProof.Rows L2
open C8 (pss_cut pe_gc)
abbrev sIsCells : Stmt := topS 25
theorem scIsCells : FnScope ["value", "fewest", "known", "before", "cell"] ["value", "fewest", "known"] (defScope sIsCells) := ⟨rfl, rfl, rfl, by decide +kernel, rfl, by decide +kernel, by decide +kernel⟩
/-- a dict of cells, at most n -/
def trues (zs : List Str) : List (Key × V) := zs.map fun z => ((Sum.inr z : Key), V.bl true)
structure Known (kd : Addr) (n : Nat) (H : Hp) : Prop where
  at_ : ∃ zs : List Str, H kd = some (.dK (trues zs)) ∧ (∀ z ∈ zs, wordD 4 false (.str z) = true) ∧ zs.length ≤ n
theorem Known.keep {kd : Addr} {n : Nat} {H H' : Hp} (k : Known kd n H) (h : Kp [] H H') : Known kd n H' := by
  obtain ⟨zs, e, r⟩ := k
  exact ⟨zs, h _ _ (by simp) e, r⟩
theorem Known.more {kd : Addr} {n m : Nat} {H : Hp} (k : Known kd n H) (h : n ≤ m) : Known kd m H := by
  obtain ⟨zs, e, r, l⟩ := k
  exact ⟨zs, e, r, by omega⟩
theorem trues_val (z : Str) : ∀ zs : List Str, valV (trues zs) (Sum.inr z : Key) = if z ∈ zs then some (.bl true) else none
  | [] => rfl
  | y :: zs => by
    by_cases h : y = z
    · rw [if_pos (by rw [h]; exact List.mem_cons_self)]
      exact valV_pos (p := ((Sum.inr y : Key), V.bl true)) (by rw [h])
    · have e : valV (trues (y :: zs)) (Sum.inr z : Key) = valV (trues zs) (Sum.inr z : Key) := valV_neg (p := ((Sum.inr y : Key), V.bl true)) (fun q => h (Sum.inr.inj q))
      rw [e, trues_val z zs]
      by_cases h2 : z ∈ zs
      · rw [if_pos h2, if_pos (List.mem_cons_of_mem _ h2)]
      · rw [if_neg h2, if_neg (fun q => (List.mem_cons.mp q).elim (fun q => h q.symm) h2)]
theorem texts_app : ∀ ds es : List PyData, textsOf (ds ++ es) = textsOf ds ++ textsOf es
  | [], _ => rfl
  | d :: ds, es => by
    have ih := texts_app ds es
    cases d <;> simp [textsOf, ih]
/-- what is read of a tuple of cells so far -/
structure Rising (ds : List PyData) (j : Nat) (before : Str) (zs : List Str) : Prop where
  eq : ds.take j = zs.map PyData.str
  word : ∀ z ∈ zs, wordD 4 false (.str z) = true
  asc : Asc zs
  top : ∀ z ∈ zs, z = before ∨ ltS z before
  last : before ∈ zs ∨ (zs = [] ∧ before = "")
theorem Rising.next {ds : List PyData} {j : Nat} {before c : Str} {zs : List Str} (r : Rising ds j before zs) (hd : ds[j]? = some (.str c)) (lt : ltS before c) (hc : wordD 4 false (.str c) = true) : Rising ds (j + 1) c (zs ++ [c]) := by
  have below : ∀ z ∈ zs, ltS z c := fun z hz => by
    rcases r.top z hz with e | e
    · rw [e]; exact lt
    · exact ltS_trans e lt
  refine ⟨?_, fun z hz => ?_, ?_, fun z hz => ?_, .inl (by simp)⟩
  · rw [List.take_add_one, hd, r.eq]
    simp
  · rcases List.mem_append.mp hz with h | h
    · exact r.word z h
    · rw [List.mem_singleton.mp h]; exact hc
  · refine List.pairwise_append.mpr ⟨r.asc, List.pairwise_singleton _ _, fun a ha b hb => ?_⟩
    rw [List.mem_singleton.mp hb]
    exact below a ha
  · rcases List.mem_append.mp hz with h | h
    · exact .inr (below z h)
    · exact .inl (List.mem_singleton.mp h)
theorem Rising.bad {ds : List PyData} {j least : Nat} {before c : Str} {zs : List Str} (r : Rising ds j before zs) (hd : ds[j]? = some (.str c)) (lt : ¬ ltS before c) : cellsD least (.tuple ds) = false := by
  show (decide (least ≤ ds.length) && decide (ds.length ≤ 3) && ds.all (wordD 4 false) && decide (Asc (textsOf ds))) = false
  rcases r.last with h | ⟨_, rfl⟩
  · rw [show decide (Asc (textsOf ds)) = false from decide_eq_false fun q => lt ?_, Bool.and_false]
    have hj := (List.getElem?_eq_some_iff.mp hd).1
    have e : ds = ds.take j ++ ds.drop j := (List.take_append_drop j ds).symm
    have e2 : ds.drop j = .str c :: ds.drop (j + 1) := by
      rw [List.drop_eq_getElem_cons hj]
      congr 1
      exact (List.getElem?_eq_some_iff.mp hd).2
    rw [e, texts_app, r.eq, texts_map, e2] at q
    exact (List.pairwise_append.mp q).2.2 before h c (by show c ∈ c :: textsOf _; exact List.mem_cons_self)
  · have hz : c = "" := ext_toList (by
      have := lt
      unfold ltS at this
      cases hc : c.cps.toList with
      | nil => rfl
      | cons a l =>
        rw [hc] at this
        exact absurd (show (Str.ofString "").cps.toList < a :: l from List.nil_lt_cons ..) this)
    have hw : ds.all (wordD 4 false) = false := by
      rw [← Bool.not_eq_true, List.all_eq_true]
      intro q
      have := q _ (List.mem_of_getElem? hd)
      rw [hz] at this
      exact absurd this (by decide)
    rw [hw, Bool.and_false, Bool.false_and]
theorem cells_word {ds : List PyData} {j least : Nat} {d : PyData} (hd : ds[j]? = some d) (h : wordD 4 false d = false) : cellsD least (.tuple ds) = false := by
  show (decide (least ≤ ds.length) && decide (ds.length ≤ 3) && ds.all (wordD 4 false) && decide (Asc (textsOf ds))) = false
  have hw : ds.all (wordD 4 false) = false := by
    rw [← Bool.not_eq_true, List.all_eq_true]
    intro q
    rw [q _ (List.mem_of_getElem? hd)] at h
    cases h
  rw [hw, Bool.and_false, Bool.false_and]
theorem Rising.good {ds : List PyData} {least : Nat} {before : Str} {zs : List Str} (r : Rising ds ds.length before zs) (h1 : least ≤ ds.length) (h2 : ds.length ≤ 3) : cellsD least (.tuple ds) = true := by
  show (decide (least ≤ ds.length) && decide (ds.length ≤ 3) && ds.all (wordD 4 false) && decide (Asc (textsOf ds))) = true
  have e := r.eq
  rw [List.take_length] at e
  have hw : ds.all (wordD 4 false) = true := by
    rw [List.all_eq_true]
    intro d hd
    rw [e] at hd
    obtain ⟨z, hz, rfl⟩ := List.mem_map.mp hd
    exact r.word z hz
  have ha : Asc (textsOf ds) := by
    rw [e, texts_map]
    exact r.asc
  rw [decide_eq_true h1, decide_eq_true h2, hw, decide_eq_true ha]
  rfl
def spCellsK : Sp := fun vs H Q _ => ∃ (v : V) (d : PyData) (ex : List Addr) (least : Nat) (kd : Addr) (n : Nat), vs = [v, .int least, .ref kd] ∧ Rp ex H d v ∧ niceD d = true ∧ kd ∈ ex ∧ Known kd n H ∧ n ≤ 100000 ∧ ∀ H', Kp [kd] H H' → Known kd (n + 3) H' → Q (.bl (cellsD least d)) H'
section
variable {P : Program} {w : World} {K : PySem.W.Frag} {mg : Str → Option Value} {base : Heap}
theorem ok_pcells (DIsCells : Fn K mg "is_cells" sIsCells ["value", "fewest", "known"]) (DIsCell : Fn K mg "is_cell" sIsCell ["value"]) (b_isinstance : mg "isinstance" = none) (b_len : mg "len" = none) (b_tuple : mg "tuple" = none) (b_str : mg "str" = none) (g1 : ∃ u, mg "MOST_CELLS" = some u ∧ L2.RelV (.int 3) u)
    (GIsCell : FnOk P w K mg base CX0 2 DIsCell.f DIsCell.fd ["value"] (spIs (wordD 4 false))) : FnOk P w K mg base CX0 3 DIsCells.f DIsCells.fd ["value", "fewest", "known"] spCellsK := by
  refine DIsCells.F.ok scIsCells (fun vs H Q E h => ?_) (fun cdv A outer s H vs Q E hr h => ?_)
  · obtain ⟨v, d, ex, least, kd, n, rfl, _⟩ := h
    rfl
  obtain ⟨v, d, ex, least, kd, n, rfl, hd, hn, hk, kn, n5, q⟩ := h
  have hu := hu_of hr
  refine ⟨_, pss_cons (ps_if (PW.pt (pw_or (pt_not (pt_val (pe_callB (cr_isD (T := "tuple") (by decide)) (by rfl) b_isinstance (by decide +kernel) (pa_cons (pv 0) (pa_cons (pe_bltn (v := .ty "tuple") rfl b_tuple (by rfl) rfl) pa_nil))))) (pw_or1 (pt_not (pt_chain op_le op_le (pv 1) (pe_callB (lenE K) (by rfl) b_len (by decide +kernel) (pa_cons (pv 0) pa_nil)) (pe_gc (v := .int 3) rfl g1))))))
      (pss_one (ps_ret pe_bl))
      pss_nil)
      (pss_cons (ps_set (i := 3) scIsCells.nd rfl (.inl rfl) pe_str)
      (pss_cons (ps_for PassesOwn.never rfl (piTupE K (pv 0)) (pg_name (i := 4) scIsCells.nd rfl (.inl rfl))
      (pss_cons (ps_if (PW.pt (pw_or (pt_not (pt_val (pe_callB (cr_isD (T := "str") (by decide)) (by rfl) b_isinstance (by decide +kernel) (pa_cons (pv 4) (pa_cons (pe_bltn (v := .ty "str") rfl b_str (by rfl) rfl) pa_nil))))) (pw_or1 (pt_cmpR op_le_str (pv 4) (pv 3) (nomark _)))))
      (pss_one (ps_ret pe_bl))
      pss_nil)
      (pss_cons (ps_if (pt_cmp (pc_dnotin hu (pv 4) (pv 2)))
      (pss_cons (ps_if (pt_not (pt_val (pe_fn DIsCell GIsCell hr (pa_cons (pv 4) pa_nil))))
      (pss_one (ps_ret pe_bl))
      pss_nil)
      (pss_one (ps_dput hu (pv 2) (pv 4) pe_bl rfl)))
      pss_nil)
      (pss_one (ps_set (i := 3) scIsCells.nd rfl (.inl rfl) (pv 4))))))
      (pss_one (ps_ret pe_bl)))), ?_⟩
  refine ⟨_, rfl, v, d, ex, rfl, hd, _, rfl, ?_⟩
  have q0 := q H Kp.refl (kn.more (by omega))
  cases hs : isD "tuple" d with
  | false =>
    refine iteT ?_
    rw [← cellsD_no (l := least) hs]
    exact q0
  | true =>
    obtain ⟨ds, rfl⟩ := tup_of_isD hs
    obtain ⟨a, xs, rfl, na, ha, hxs⟩ := hd
    have n2 := nice_tup hn
    have hl := hxs.length
    have cd : ∀ b1 b2 b3 b4 : Bool, decide (least ≤ ds.length) = b1 → decide (ds.length ≤ 3) = b2 → ds.all (wordD 4 false) = b3 → decide (Asc (textsOf ds)) = b4 → cellsD least (.tuple ds) = (b1 && b2 && b3 && b4) := fun b1 b2 b3 b4 h1 h2 h3 h4 => by
      show (decide (least ≤ ds.length) && decide (ds.length ≤ 3) && ds.all (wordD 4 false) && decide (Asc (textsOf ds))) = _
      rw [h1, h2, h3, h4]
    refine iteF ⟨_, rfl, _, rfl, a, xs, rfl, .inr (.inl (.inl ha)), ?_⟩
    refine ⟨(least : Int), (xs.length : Int), rfl, rfl, _, rfl, ?_⟩
    by_cases h1 : (least : Int) ≤ (xs.length : Int)
    · rw [decide_eq_true h1]
      refine iteT ⟨(xs.length : Int), 3, rfl, rfl, _, rfl, ?_⟩
      by_cases h2 : (xs.length : Int) ≤ 3
      · rw [decide_eq_true h2]
        have akd : a ≠ kd := fun z => na (by rw [z]; exact hk)
        have aT : ∀ {H' : Hp}, Kp [kd] H H' → SqT K H' a xs := fun k => .inl (.inl (k _ _ (by simpa using akd) ha))
        refine iteF ⟨_, rfl, a, rfl, ⟨_, .inl (.inl ha)⟩, for_tup (K := K) (a := a) (xs := xs) (fun j σ H' => ∃ (before : Str) (cell : Option V) (zs : List Str), σ = [some (.ref a), some (.int least), some (.ref kd), some (.str before), cell] ∧ Kp [kd] H H' ∧ Known kd (n + j) H' ∧ Rising ds j before zs)
          ⟨"", none, [], rfl, Kp.refl, kn.more (by omega), ⟨rfl, (fun z hz => by cases hz), List.Pairwise.nil, (fun z hz => by cases hz), .inr ⟨rfl, rfl⟩⟩⟩ ?_ ?_ ?_⟩
        · rintro j σ H' hj ⟨_, _, _, _, k, _⟩
          exact aT k
        · rintro j x σ H' hx ⟨before, cell, zs, rfl, k, kj, r⟩
          have hj : j < xs.length := (List.getElem?_eq_some_iff.mp hx).1
          have hj3 : j < 3 := by omega
          obtain ⟨e, he1, he2⟩ := RpAll.back hxs hx
          have ke := Rp.keep (k.mono (by simpa using hk)) _ _ he2
          have ne := n2 e (List.mem_of_getElem? he1)
          have stop : wordD 4 false e = false → Q (.bl false) H' := fun h => by
            rw [← cells_word (least := least) he1 h]
            exact q H' k (kj.more (by omega))
          refine ⟨_, rfl, x, e, ex, rfl, ke, _, rfl, ?_⟩
          cases hse : isD "str" e with
          | false => exact iteT (stop (wordD_no hse))
          | true =>
            obtain ⟨c, rfl⟩ := str_of_isD hse
            obtain rfl : x = .str c := ke
            refine iteF ⟨_, rfl, _, rfl, c, before, rfl, rfl, _, rfl, ?_⟩
            by_cases hlt : ltS before c
            · rw [show decide (before.cps.toList < c.cps.toList) = true from decide_eq_true hlt]
              obtain ⟨ys, ey, wy, ly⟩ := kj.at_
              refine iteF ⟨_, rfl, _, rfl, kd, _, rfl, DGet.k (k := Sum.inr c) ey, _, rfl, ?_⟩
              rw [trues_val]
              have go : ∀ {H2 : Hp}, Kp [kd] H H2 → Known kd (n + (j + 1)) H2 → wordD 4 false (.str c) = true → ∃ (before' : Str) (cell : Option V) (zs : List Str), [some (.ref a), some (.int least), some (.ref kd), some (.str c), some (.str c)] = [some (.ref a), some (.int least), some (.ref kd), some (.str before'), cell] ∧ Kp [kd] H H2 ∧ Known kd (n + (j + 1)) H2 ∧ Rising ds (j + 1) before' zs :=
                fun k2 kn2 hc => ⟨c, _, _, rfl, k2, kn2, r.next he1 hlt hc⟩
              by_cases hin : c ∈ ys
              · rw [if_pos hin]
                exact iteF ⟨_, rfl, go k (kj.more (by omega)) (wy c hin)⟩
              · rw [if_neg hin]
                refine iteT ⟨_, rfl, .str c, .str c, ex, rfl, rfl, ne, _, rfl, ?_⟩
                cases hw : wordD 4 false (.str c) with
                | false => exact iteT (stop hw)
                | true =>
                  refine iteF ⟨_, rfl, _, rfl, kd, _, rfl, DPut.k (k := Sum.inr c) ey (by show (trues ys).length < sizeLine; rw [show (trues ys).length = ys.length from List.length_map ..]; have : (100003 : Nat) < sizeLine := by decide
                                                                                          omega), ?_⟩
                  refine ⟨_, rfl, go (k.trans (Kp.put (by simp))) ⟨ys ++ [c], ?_, fun z hz => ?_, by rw [List.length_append, List.length_singleton]; omega⟩ hw⟩
                  · rw [upd_same, putK_new _ (by rw [trues_val, if_neg hin])]
                    unfold trues
                    rw [List.map_append]
                    rfl
                  · rcases List.mem_append.mp hz with h | h
                    · exact wy z h
                    · rw [List.mem_singleton.mp h]; exact hw
            · rw [show decide (before.cps.toList < c.cps.toList) = false from decide_eq_false hlt]
              refine iteT ?_
              rw [← r.bad (least := least) he1 hlt]
              exact q H' k (kj.more (by omega))
        · rintro σ H' ⟨before, cell, zs, rfl, k, kj, r⟩
          rw [← hl] at r kj
          rw [← r.good (least := least) (by omega) (by omega)]
          exact q H' k (kj.more (by omega))
      · rw [decide_eq_false h2]
        refine iteT ?_
        have e : cellsD least (.tuple ds) = false := (cd _ false _ _ rfl (decide_eq_false (by omega)) rfl rfl).trans (by simp)
        rw [← e]
        exact q0
    · rw [decide_eq_false h1]
      refine iteF ⟨_, rfl, iteT ?_⟩
      have e : cellsD least (.tuple ds) = false := (cd false _ _ _ (decide_eq_false (by omega)) rfl rfl rfl).trans rfl
      rw [← e]
      exact q0
end
end NV
/-! P4b -/
set_option Elab.async false
set_option linter.all false
set_option maxRecDepth 100000
set_option maxHeartbeats 600000
namespace NV
open PySem PySem.Spec PyProof.Rows L2
/-! ### data != a text -/
theorem dict_ne_str (l : Addr) (es : Array DictEntry) (n : Nat) (dd : Option Addr) (sl : Array (Option Value)) (b : Str) (u : Tok) :
    Meets (Builtin.«dict.__ne__» ⟨[.ref l, .str b u], []⟩) (fun _ R s => s.heap.get? l = some { cls := .type "dict", dict := dd, data := .dict es n, slots := sl } ∧ R (.ok (.ret .notImplemented)) s) :=
  .of_wp fun prog w A R s h => by
    obtain ⟨hp, g, d, tk, os⟩ := s
    obtain ⟨hl, h⟩ := h
    have f1 := F.sub_str_dict
    wp_walk using wpAny_loadPart' hl
    exact ⟨_, rfl, h⟩
theorem str_ne_dict (b : Str) (u : Tok) (l : Addr) (es : Array DictEntry) (n : Nat) (dd : Option Addr) (sl : Array (Option Value)) :
    Meets (Builtin.«str.__ne__» ⟨[.str b u, .ref l], []⟩) (fun _ R s => s.heap.get? l = some { cls := .type "dict", dict := dd, data := .dict es n, slots := sl } ∧ R (.ok (.ret .notImplemented)) s) :=
  .of_wp fun prog w A R s h => by
    obtain ⟨hp, g, d, tk, os⟩ := s
    obtain ⟨hl, h⟩ := h
    wp_walk using wpAny_loadPart' hl, wpAny_load hl
    exact ⟨_, rfl, h⟩
theorem ne_dict_str {A : Around} {s : Shared} {l : Addr} {o : Obj} {es : Array DictEntry} {n : Nat} (b : Str) (u : Tok) (ho : s.heap.get? l = some o) (hc : o.cls = .type "dict") (hd : o.data = .dict es n) (hu : A.units < cLine) : SeqAt.RcNeAt A s (.ref l) (.str b u) true := fun prog w E Q h => by
  obtain ⟨cls, dd, data, sl⟩ := o
  simp only at hc hd
  subst hc hd
  exact SeqAt.rc_ne_decline_or (k := false) ⟨_, ho, rfl⟩ (typeIs_str s b u) (by decide) F.sub_str_dict F.slot_dict_ne F.slot_str_ne_refl
    (fun _ hq => call_meets F.slot_dict_ne ⟨_, ho, rfl⟩ F.entry_dict_ne (F.args_dict_ne_2 _ _) (dict_ne_str l es n dd sl b u) ⟨ho, hq⟩)
    (fun _ hq => call_meets F.slot_str_ne_refl (typeIs_str s b u) F.entry_str_ne (F.args_str_ne_2 _ _) (str_ne_dict b u l es n dd sl) ⟨ho, hq⟩)
    (fun _ hq => wpAny_of_eq (rfl : isSame (.ref l) (.str b u) = pure false) hq) (.inr hu) h
def rNeDS : R2 := fun x y H Q => ∃ (d : PyData) (ex : List Addr) (z : Str), y = .str z ∧ Rp ex H d x ∧ Q (.bl (!strD z d)) H
theorem op_neDS {X : Cx} (hu : X.A.units + 64 < cLine) : OpR X (compareOp .NotEq) rNeDS := by
  intro pins s σ H x y v u Q I rx ry h
  obtain ⟨d, ex, z, rfl, hd, q⟩ := h
  have hu' : X.A.units < cLine := by omega
  have fin : strD z d = false → EP X pins σ Q (.bool true) s := fun e => ⟨.bl true, H, I, rfl, by rw [e] at q; exact q⟩
  have sc : scal x (.str z) = true → (!decide (x = .str z)) = (!strD z d) → wpAny (model X.prog X.w) X.A (compareOp .NotEq v u) (EP X pins σ Q) X.xe s := fun h1 h2 => op_ne pins s σ H x (.str z) v u Q I rx ry ⟨h1, by rw [h2]; exact q⟩
  obtain ⟨t, rfl⟩ := ry
  cases d with
  | none =>
    obtain rfl : x = .non := hd
    exact sc rfl rfl
  | bool b =>
    obtain rfl : x = .bl b := hd
    exact sc rfl (by simp [strD])
  | int i =>
    obtain rfl : x = .int i := hd
    exact sc rfl (by simp [strD])
  | str y =>
    obtain rfl : x = .str y := hd
    exact sc rfl (by simp [strD])
  | list ds =>
    obtain ⟨a, xs, rfl, _, ha, _⟩ := hd
    obtain rfl : v = Value.ref a := rx
    obtain ⟨its, rv, pl, _⟩ := I.list (.inl (.inl ha))
    exact SeqAt.RcNeAt.list_str z t pl.isList hu' _ _ _ _ (fin rfl)
  | tuple ds =>
    obtain ⟨a, xs, rfl, _, ha, _⟩ := hd
    obtain rfl : v = Value.ref a := rx
    obtain ⟨its, rv, pl, _⟩ := I.tuple (.inl (.inl ha))
    exact SeqAt.RcNeAt.tuple_str z t pl hu' _ _ _ _ (fin rfl)
  | dict kvs =>
    obtain ⟨rfl, a, rfl, _, ha⟩ := hd
    obtain rfl : v = Value.ref a := rx
    obtain ⟨_, o, es, ep, ho, hc, hdt, _⟩ := no_entries I.hok ha
    exact ne_dict_str z t ho hc hdt hu' _ _ _ _ (fin rfl)
/-! ### data == a text -/
theorem dict_eq_no (l : Addr) (es : Array DictEntry) (n : Nat) (dd : Option Addr) (sl : Array (Option Value)) (b : Str) (u : Tok) :
    Meets (Builtin.«dict.__eq__» ⟨[.ref l, .str b u], []⟩) (fun _ R s => s.heap.get? l = some { cls := .type "dict", dict := dd, data := .dict es n, slots := sl } ∧ R (.ok (.ret .notImplemented)) s) :=
  .of_wp fun prog w A R s h => by
    obtain ⟨hp, g, d, tk, os⟩ := s
    obtain ⟨hl, h⟩ := h
    have f1 := F.sub_str_dict
    wp_walk using wpAny_loadPart' hl
    exact ⟨_, rfl, h⟩
theorem str_eq_no (b : Str) (u : Tok) (l : Addr) (es : Array DictEntry) (n : Nat) (dd : Option Addr) (sl : Array (Option Value)) :
    Meets (Builtin.«str.__eq__» ⟨[.str b u, .ref l], []⟩) (fun _ R s => s.heap.get? l = some { cls := .type "dict", dict := dd, data := .dict es n, slots := sl } ∧ R (.ok (.ret .notImplemented)) s) :=
  .of_wp fun prog w A R s h => by
    obtain ⟨hp, g, d, tk, os⟩ := s
    obtain ⟨hl, h⟩ := h
    wp_walk using wpAny_loadPart' hl, wpAny_load hl
    exact ⟨_, rfl, h⟩
theorem eq_dict_text {A : Around} {s : Shared} {l : Addr} {o : Obj} {es : Array DictEntry} {n : Nat} (b : Str) (u : Tok) (ho : s.heap.get? l = some o) (hc : o.cls = .type "dict") (hd : o.data = .dict es n) (hu : A.units < cLine) : SeqAt.RcAt A s (.ref l) (.str b u) false := fun prog w E Q h => by
  obtain ⟨cls, dd, data, sl⟩ := o
  simp only at hc hd
  subst hc hd
  refine SeqAt.rc_eq_decline_or (k := false) (Ta := "dict") (Tb := "str") ⟨_, ho, rfl⟩ (typeIs_str s b u) (by decide) F.sub_str_dict F.slot_dict_eq F.slot_str_eq_refl (fun _ hq => ?_) (fun _ hq => ?_) (fun _ hq => wpAny_of_eq (rfl : isSame (.ref l) (.str b u) = pure false) hq) (.inr hu) h
  · exact call_meets F.slot_dict_eq ⟨_, ho, rfl⟩ F.entry_dict_eq (F.args_dict_eq_2 _ _) (dict_eq_no l es n dd sl b u) ⟨ho, hq⟩
  · exact call_meets F.slot_str_eq_refl (typeIs_str s b u) F.entry_str_eq (F.args_str_eq_2 _ _) (str_eq_no b u l es n dd sl) ⟨ho, hq⟩
def rEqDS : R2 := fun x y H Q => ∃ (d : PyData) (ex : List Addr) (z : Str), y = .str z ∧ Rp ex H d x ∧ Q (.bl (strD z d)) H
theorem op_eqDS {X : Cx} (hu : X.A.units + 64 < cLine) : OpR X (compareOp .Eq) rEqDS := by
  intro pins s σ H x y v u Q I rx ry h
  obtain ⟨d, ex, z, rfl, hd, q⟩ := h
  have hu' : X.A.units < cLine := by omega
  have fin : strD z d = false → EP X pins σ Q (.bool false) s := fun e => ⟨.bl false, H, I, rfl, by rw [e] at q; exact q⟩
  have sc : scal x (.str z) = true → decide (x = .str z) = strD z d → wpAny (model X.prog X.w) X.A (compareOp .Eq v u) (EP X pins σ Q) X.xe s := fun h1 h2 => op_eq pins s σ H x (.str z) v u Q I rx ry ⟨h1, by rw [h2]; exact q⟩
  obtain ⟨t, rfl⟩ := ry
  match d, hd with
  | .none, hd =>
    obtain rfl : x = .non := hd
    exact sc rfl rfl
  | .bool b, hd =>
    obtain rfl : x = .bl b := hd
    exact sc rfl (by simp [strD])
  | .int i, hd =>
    obtain rfl : x = .int i := hd
    exact sc rfl (by simp [strD])
  | .str y, hd =>
    obtain rfl : x = .str y := hd
    exact sc rfl (by simp [strD])
  | .list ds, hd =>
    obtain ⟨a, xs, rfl, _, ha, _⟩ := hd
    obtain rfl : v = Value.ref a := rx
    obtain ⟨its, rv, pl, _⟩ := I.list (.inl (.inl ha))
    exact SeqAt.RcAt.list_str z t pl.isList hu' _ _ _ _ (fin rfl)
  | .tuple ds, hd =>
    obtain ⟨a, xs, rfl, _, ha, _⟩ := hd
    obtain rfl : v = Value.ref a := rx
    obtain ⟨its, rv, pl, _⟩ := I.tuple (.inl (.inl ha))
    exact SeqAt.RcAt.tuple_str z t pl hu' _ _ _ _ (fin rfl)
  | .dict kvs, hd =>
    obtain ⟨rfl, a, rfl, _, ha⟩ := hd
    obtain rfl : v = Value.ref a := rx
    obtain ⟨_, o, es, ep, ho, hc, hdt, _⟩ := no_entries I.hok ha
    exact eq_dict_text z t ho hc hdt hu' _ _ _ _ (fin rfl)
end NV
/-! Q3 -/
set_option Elab.async false
set_option linter.all false
set_option maxRecDepth 100000
set_option maxHeartbeats 600000
/-! the package's is_entry_with -/
namespace NV
open PySem PySem.Spec PyProof.Rows L2
open C8 (pss_cut pe_gc)
abbrev sIsEntryWith : Stmt := topS 27
theorem scIsEntryWith : FnScope ["value", "known", "kind", "entry_id", "reads", "writes", "price", "cells"] ["value", "known"] (defScope sIsEntryWith) := ⟨rfl, rfl, rfl, by decide +kernel, rfl, by decide +kernel, by decide +kernel⟩
def spEntryK : Sp := fun vs H Q _ => ∃ (v : V) (d : PyData) (ex : List Addr) (kd : Addr) (n : Nat), vs = [v, .ref kd] ∧ Rp ex H d v ∧ niceD d = true ∧ kd ∈ ex ∧ Known kd n H ∧ n ≤ 90000 ∧ ∀ H', Kp [kd] H H' → Known kd (n + 6) H' → Q (.bl (entryD d)) H'
theorem entry_len {ds : List PyData} (h3 : ds.length ≠ 3) (h5 : ds.length ≠ 5) : entryD (.tuple ds) = false := by
  match ds with
  | [_, _, _] => exact absurd rfl h3
  | [_, _, _, _, _] => exact absurd rfl h5
  | [] => rfl
  | [_] => rfl
  | [_, _] => rfl
  | [_, _, _, _] => rfl
  | _ :: _ :: _ :: _ :: _ :: _ :: _ => rfl
section
variable {P : Program} {w : World} {K : PySem.W.Frag} {mg : Str → Option Value} {base : Heap}
theorem ok_pentryk (DIsEntryWith : Fn K mg "is_entry_with" sIsEntryWith ["value", "known"]) (DIsId : Fn K mg "is_id" sIsId ["value"]) (DIsPrice : Fn K mg "is_price" sIsPrice ["value"]) (DIsCells : Fn K mg "is_cells" sIsCells ["value", "fewest", "known"]) (b_isinstance : mg "isinstance" = none) (b_len : mg "len" = none) (b_tuple : mg "tuple" = none)
    (GIsId : FnOk P w K mg base CX0 1 DIsId.f DIsId.fd ["value"] (spIs (wordD 6 true))) (GIsPrice : FnOk P w K mg base CX0 2 DIsPrice.f DIsPrice.fd ["value"] (spIs priceD)) (GIsCells : FnOk P w K mg base CX0 3 DIsCells.f DIsCells.fd ["value", "fewest", "known"] spCellsK) :
    FnOk P w K mg base CX0 4 DIsEntryWith.f DIsEntryWith.fd ["value", "known"] spEntryK := by
  refine DIsEntryWith.F.ok scIsEntryWith (fun vs H Q E h => ?_) (fun cdv A outer s H vs Q E hr h => ?_)
  · obtain ⟨v, d, ex, kd, n, rfl, _⟩ := h
    rfl
  obtain ⟨v, d, ex, kd, n, rfl, hd, hn, hk, kn, n5, q⟩ := h
  refine ⟨_, pss_cons (ps_if (pt_not (pt_val (pe_callB (cr_isD (T := "tuple") (by decide)) (by rfl) b_isinstance (by decide +kernel) (pa_cons (pv 0) (pa_cons (pe_bltn (v := .ty "tuple") rfl b_tuple (by rfl) rfl) pa_nil)))))
      (pss_one (ps_ret pe_bl))
      pss_nil)
      (pss_cons (ps_if (pt_cmpR op_eq (pe_callB (lenE K) (by rfl) b_len (by decide +kernel) (pa_cons (pv 0) pa_nil)) pe_int (nomark _))
      (pss_cons (ps_asg (pv 0) (pg_tup (by rfl) (pgs_cons (pg_name (i := 2) scIsEntryWith.nd rfl (.inl rfl)) (pgs_cons (pg_name (i := 3) scIsEntryWith.nd rfl (.inl rfl)) (pgs_cons (pg_name (i := 4) scIsEntryWith.nd rfl (.inl rfl)) (pgs_cons (pg_name (i := 5) scIsEntryWith.nd rfl (.inl rfl)) (pgs_cons (pg_name (i := 6) scIsEntryWith.nd rfl (.inl rfl)) pgs_nil)))))))
      (pss_cons (ps_if (PW.pt (pw_or (pt_cmpR (op_neDS hr.units) (pv 2) pe_str (nomark _)) (pw_or (pt_not (pt_val (pe_fn DIsId GIsId hr (pa_cons (pv 3) pa_nil)))) (pw_or1 (pt_not (pt_val (pe_fn DIsPrice GIsPrice hr (pa_cons (pv 6) pa_nil))))))))
      (pss_one (ps_ret pe_bl))
      pss_nil)
      (pss_one (ps_ret (pe_and (pe_fn DIsCells GIsCells hr (pa_cons (pv 4) (pa_cons pe_int (pa_cons (pv 1) pa_nil)))) (pe_one (pe_fn DIsCells GIsCells hr (pa_cons (pv 5) (pa_cons pe_int (pa_cons (pv 1) pa_nil))))))))))
      pss_nil)
      (pss_cons (ps_if (pt_cmpR op_eq (pe_callB (lenE K) (by rfl) b_len (by decide +kernel) (pa_cons (pv 0) pa_nil)) pe_int (nomark _))
      (pss_cons (ps_asg (pv 0) (pg_tup (by rfl) (pgs_cons (pg_name (i := 2) scIsEntryWith.nd rfl (.inl rfl)) (pgs_cons (pg_name (i := 3) scIsEntryWith.nd rfl (.inl rfl)) (pgs_cons (pg_name (i := 7) scIsEntryWith.nd rfl (.inl rfl)) pgs_nil)))))
      (pss_one (ps_ret (pe_and (pe_cmpR (op_eqDS hr.units) (pv 2) pe_str (nomark _)) (pe_and (pe_fn DIsId GIsId hr (pa_cons (pv 3) pa_nil)) (pe_one (pe_fn DIsCells GIsCells hr (pa_cons (pv 7) (pa_cons pe_int (pa_cons (pv 1) pa_nil))))))))))
      pss_nil)
      (pss_one (ps_ret pe_bl)))), ?_⟩
  refine ⟨_, rfl, v, d, ex, rfl, hd, _, rfl, ?_⟩
  have q0 := q H Kp.refl (kn.more (by omega))
  have hk' : ∀ b ∈ [kd], b ∈ ex := by simpa using hk
  cases hs : isD "tuple" d with
  | false =>
    refine iteT ?_
    rw [← entryD_no hs]
    exact q0
  | true =>
    obtain ⟨ds, rfl⟩ := tup_of_isD hs
    obtain ⟨a, xs, rfl, na, ha, hxs⟩ := hd
    have hl := hxs.length
    have n2 := nice_tup hn
    refine iteF ⟨_, rfl, a, xs, rfl, .inr (.inl (.inl ha)), rfl, _, rfl, ?_⟩
    by_cases h5 : xs.length = 5
    · rw [show decide (V.int (xs.length : Int) = V.int 5) = true from decide_eq_true (by rw [h5]; rfl)]
      obtain ⟨k, i, r, t, p, rfl⟩ : ∃ k i r t p, ds = [k, i, r, t, p] := by
        match ds, hl with
        | [k, i, r, t, p], _ => exact ⟨k, i, r, t, p, rfl⟩
        | [], hl => simp at hl; omega
        | [_], hl => simp at hl; omega
        | [_, _], hl => simp at hl; omega
        | [_, _, _], hl => simp at hl; omega
        | [_, _, _, _], hl => simp at hl; omega
        | _ :: _ :: _ :: _ :: _ :: _ :: _, hl => simp at hl; omega
      obtain ⟨xk, w1, rfl, rk, xi, w2, rfl, ri, xr, w3, rfl, rr, xt, w4, rfl, rt, xp, w5, rfl, rp, rfl⟩ := hxs
      have wd : ∀ b1 b2 b3 b4 b5 : Bool, strD "write" k = b1 → wordD 6 true i = b2 → cellsD 0 r = b3 → cellsD 1 t = b4 → priceD p = b5 → entryD (.tuple [k, i, r, t, p]) = (b2 && b1 && b3 && b4 && b5) := fun b1 b2 b3 b4 b5 z1 z2 z3 z4 z5 => by
        show (wordD 6 true i && strD "write" k && cellsD 0 r && cellsD 1 t && priceD p) = _
        rw [z1, z2, z3, z4, z5]
      refine iteT ⟨_, rfl, a, [xk, xi, xr, xt, xp], rfl, .inl (.inl ha), rfl, _, _, rfl, _, _, rfl, _, _, rfl, _, _, rfl, _, _, rfl, rfl, ?_⟩
      refine ⟨_, rfl, k, ex, "write", rfl, rk, _, rfl, ?_⟩
      cases hq : strD "write" k with
      | false =>
        refine iteT ?_
        have e := wd false _ _ _ _ hq rfl rfl rfl rfl
        rw [Bool.and_false, Bool.false_and, Bool.false_and, Bool.false_and] at e
        rw [← e]
        exact q0
      | true =>
        refine iteF ⟨_, rfl, xi, i, ex, rfl, ri, n2 i (by simp), _, rfl, ?_⟩
        cases hw : wordD 6 true i with
        | false =>
          refine iteT ?_
          have e := wd true false _ _ _ hq hw rfl rfl rfl
          rw [Bool.false_and, Bool.false_and, Bool.false_and, Bool.false_and] at e
          rw [← e]
          exact q0
        | true =>
          refine iteF ⟨_, rfl, xp, p, ex, rfl, rp, n2 p (by simp), _, rfl, ?_⟩
          cases hp : priceD p with
          | false =>
            refine iteT ?_
            have e := wd true true _ _ false hq hw rfl rfl hp
            rw [Bool.and_false] at e
            rw [← e]
            exact q0
          | true =>
            refine iteF ⟨_, rfl, _, rfl, xr, r, ex, 0, kd, n, rfl, rr, n2 r (by simp), hk, kn, by omega, fun H2 k2 t2 => ⟨_, rfl, ?_⟩⟩
            cases hr0 : cellsD 0 r with
            | false =>
              refine iteF ?_
              have e := wd true true false _ _ hq hw hr0 rfl rfl
              rw [Bool.and_false, Bool.false_and, Bool.false_and] at e
              rw [← e]
              exact q H2 k2 (t2.more (by omega))
            | true =>
              refine iteT ⟨_, rfl, _, rfl, xt, t, ex, 1, kd, n + 3, rfl, Rp.keep (k2.mono hk') _ _ rt, n2 t (by simp), hk, t2, by omega, fun H3 k3 t3 => ?_⟩
              have e := wd true true true _ true hq hw hr0 rfl hp
              rw [Bool.true_and, Bool.true_and, Bool.true_and, Bool.and_true] at e
              rw [← e]
              exact q H3 (k2.trans k3) (t3.more (by omega))
    · rw [show decide (V.int (xs.length : Int) = V.int 5) = false from decide_eq_false (by intro e; injection e with e; omega)]
      refine iteF ⟨_, rfl, a, xs, rfl, .inr (.inl (.inl ha)), rfl, _, rfl, ?_⟩
      by_cases h3 : xs.length = 3
      · rw [show decide (V.int (xs.length : Int) = V.int 3) = true from decide_eq_true (by rw [h3]; rfl)]
        obtain ⟨k, i, c, rfl⟩ : ∃ k i c, ds = [k, i, c] := by
          match ds, hl with
          | [k, i, c], _ => exact ⟨k, i, c, rfl⟩
          | [], hl => simp at hl; omega
          | [_], hl => simp at hl; omega
          | [_, _], hl => simp at hl; omega
          | _ :: _ :: _ :: _ :: _, hl => simp at hl; omega
        obtain ⟨xk, w1, rfl, rk, xi, w2, rfl, ri, xc, w3, rfl, rc, rfl⟩ := hxs
        have qd : ∀ b1 b2 b3 : Bool, strD "query" k = b1 → wordD 6 true i = b2 → cellsD 1 c = b3 → entryD (.tuple [k, i, c]) = (b2 && b1 && b3) := fun b1 b2 b3 z1 z2 z3 => by
          show (wordD 6 true i && strD "query" k && cellsD 1 c) = _
          rw [z1, z2, z3]
        refine iteT ⟨_, rfl, a, [xk, xi, xc], rfl, .inl (.inl ha), rfl, _, _, rfl, _, _, rfl, _, _, rfl, rfl, ?_⟩
        refine ⟨_, rfl, k, ex, "query", rfl, rk, _, rfl, ?_⟩
        cases hq : strD "query" k with
        | false =>
          refine iteF ?_
          have e := qd false _ _ hq rfl rfl
          rw [Bool.and_false, Bool.false_and] at e
          rw [← e]
          exact q0
        | true =>
          refine iteT ⟨_, rfl, xi, i, ex, rfl, ri, n2 i (by simp), _, rfl, ?_⟩
          cases hw : wordD 6 true i with
          | false =>
            refine iteF ?_
            have e := qd true false _ hq hw rfl
            rw [Bool.false_and, Bool.false_and] at e
            rw [← e]
            exact q0
          | true =>
            refine iteT ⟨_, rfl, _, rfl, xc, c, ex, 1, kd, n, rfl, rc, n2 c (by simp), hk, kn, by omega, fun H2 k2 t2 => ?_⟩
            have e := qd true true _ hq hw rfl
            rw [Bool.true_and, Bool.true_and] at e
            rw [← e]
            exact q H2 k2 (t2.more (by omega))
      · rw [show decide (V.int (xs.length : Int) = V.int 3) = false from decide_eq_false (by intro e; injection e with e; omega)]
        refine iteF ?_
        rw [← entry_len (ds := ds) (by omega) (by omega)]
        exact q0
end
end NV
/-! SetCT -/
set_option Elab.async false
set_option linter.all false
set_option maxRecDepth 100000
set_option maxHeartbeats 2000000
/-! {elt for x in t}: the texts that elt gives for the items of a tuple, as a set -/
namespace NV
open PySem PySem.Spec PyProof.Rows L2
section
variable {P : Program} {w : World} {A : Around} {E : Value → Shared → Prop} {s : Shared} {a : Addr} {S : Str → Bool} {n : Nat}
/-- a text goes into a set of texts -/
theorem setT_put {z : Str} {t : Tok} {Q : Value → Shared → Prop} (R : SetG (PySem.strKind P w) tKey s.heap a S n) (room : n + 1 < scanBound)
    (fin : ∀ g, Heap.SameBut a s.heap g → SetG (PySem.strKind P w) tKey g a (fun j => S j || decide (j = z)) (if S z = true then n else n + 1) → ∀ tk, Q .none { s with heap := g, toks := tk }) :
    wpAny (model P w) A (call (.builtin "set.add") [.ref a, .str z t]) Q E s := by
  have isz : (PySem.strKind P w).is z (.str z t) = true := by show (z == z) = true; exact beq_self_eq_true z
  refine wpAny_call_entry F.slot_set_add (SetG.plain tKey_ok R).typeIs F.entry_set_add ?_ (F.args_set_add_2 _ _)
  unfold Builtin.«set.add» Builtin.Frozenset.oneOther
  simp only [List.isEmpty_nil, bind_assoc]
  unfold Builtin.Frozenset.addrOf setAdd
  refine wpAny_bind (wpAny_pure ?_)
  try dsimp only
  refine wpAny_bind (wpAny_pure ?_)
  try dsimp only
  refine wpAny_bind (wpAny_holding (wpAny_bind ((PySem.strKind P w).pyHash isz ?_)))
  refine setG_add_hashed (s := { s with toks := s.toks + 1 }) tKey_ok isz rfl R room fun g sb r => ?_
  show wpAny _ _ (ret Value.none) _ _ _
  exact wpAny_pure ⟨_, rfl, fin g sb r _⟩
end
section
variable {X : Cx}
/-- the texts zs stand for the items in turn; elt leaves the memory as it finds it -/
def tSetC (K : PySem.W.Frag) (P : Program) (w : World) (i : Nat) (tl te : TE) : TE := fun σ H Q => iTup K tl σ H fun J H1 => ∃ (a : Addr) (xs : List V) (zs : List Str), J = Itt K a ∧ SqT K H1 a xs ∧ zs.length = xs.length ∧ zs.length < 1000 ∧
  (∀ (j : Nat) (x : V) (z : Str) (H2 : Hp) (Q2 : VK), xs[j]? = some x → zs[j]? = some z → Kp [] H1 H2 → Q2 (.str z) H2 → te ((wipe σ [i]).set i (some x)) H2 Q2) ∧
  ∀ (D : Addr) (n : Nat), n ≤ zs.length → (n = zs.length ↔ zs.Nodup) → H1 D = none → Q (.ref D) (upd H1 D (SetT P w D (fun j => decide (j ∈ zs)) n))
/-- what the set's members are after j turns -/
def upTo (zs : List Str) (j : Nat) : Str → Bool := fun k => decide (k ∈ zs.take j)
theorem upTo_zero (zs : List Str) : upTo zs 0 = fun _ => false := by
  funext k
  unfold upTo
  simp
theorem upTo_next {zs : List Str} {j : Nat} {z : Str} (h : zs[j]? = some z) : (fun k => upTo zs j k || decide (k = z)) = upTo zs (j + 1) := by
  funext k
  unfold upTo
  rw [List.take_add_one, h]
  simp [List.mem_append]
theorem upTo_all (zs : List Str) : upTo zs zs.length = fun k => decide (k ∈ zs) := by
  funext k
  unfold upTo
  rw [List.take_length]
theorem pe_setC {elt tg iter : Expr} {i : Nat} {scope : Scope} {own : List (PySem.Str × Nat)} {pos : Pos} {tl te : TE} (K : PySem.W.Frag) (P : Program) (w : World) (hc : X.calm = true) (hN : X.N.Nodup) (hl : PE X iter tl) (ok : BlkOk X.N X.env.scope scope own)
    (hg : ∀ (s : Shared) (H : Hp) (C : Addr) (cl : List (PySem.Str × Addr)) (fp : List Addr), PG (X.blk s H scope (compEnvC scope cl C X.env) fp) tg (gName i))
    (he : ∀ (s : Shared) (H : Hp) (C : Addr) (cl : List (PySem.Str × Addr)) (fp : List Addr), PE (X.blk s H scope (compEnvC scope cl C X.env) fp) elt te)
    (how : own.map (·.2) = [i] := by rfl) (hs : ∀ x, foldedSetIterable iter X.env x = pure x := by intro _; rfl) (hK : X.K = K := by rfl) (hP : X.prog = P := by rfl) (hw : X.w = w := by rfl) :
    PE X (.SetComp elt [⟨tg, iter, [], 0⟩] scope pos) (tSetC K P w i tl te) := by
  subst hK hP hw
  constructor
  intro pins s σ H Q I h
  rw [PpSet.eval_SetComp]
  have cells : ∀ y ∈ scope.names, y.2 = .free → ∃ c, X.env.cells.lookup y.1 = some c := fun y hy e => (ok.free y hy e).elim (fun z => I.ok.has _ (.inl z)) fun z => I.ok.has _ (.inr z)
  have tup : PI X tg iter (iTup X.K tl) := pi_tup hl
  refine wpAny_comprehension_free (use := none) rfl hs (closure_ok cells) ok.kind (fun y hy e => (ok.uniq y hy).trans (congrArg some e)) ?_
  refine thn (tup.run pins s σ H _ I h) fun _ _ came => thn came fun _ sa ⟨it, fp, tn, _, Ha, e1, Ia, T, t0, off, a, xs, zs, e2, hx, hlen, hmany, step, fin⟩ => ?_
  subst e1 e2
  refine PpSet.newSet_ok (newEnv_comp ?_)
  -- D: the new set
  obtain ⟨D, hD⟩ : ∃ D, sa.heap.objs.size = D := ⟨_, rfl⟩
  rw [hD]
  have noD : Ha D = none := Ia.hok.fresh (Nat.le_of_eq hD)
  obtain ⟨sb, esb⟩ : ∃ sb : Shared, { sa with heap := sa.heap.push (blank X.w) } = sb := ⟨_, rfl⟩
  have hb : sb.heap = sa.heap.push (blank X.w) := by rw [← esb]
  have grow : ∀ b o, sa.heap.get? b = some o → sb.heap.get? b = some o := fun b o e => by rw [hb]; exact Heap.get?_push_of_some _ e
  have newD : sb.heap.get? D = some (blank X.w) := by rw [hb, ← hD]; exact Heap.get?_push_size _ rfl
  have Ib : Inv X pins σ (upd Ha D (SetT X.prog X.w D (fun _ => false) 0)) sb := by
    rw [← esb]
    exact Ia.laid (t' := sa.toks) (fun b o e => Heap.get?_push_of_some _ e) (Nat.le_of_eq hD) (setT_new (SetG.start (by rw [← hb]; exact newD) rfl))
  obtain ⟨Hb, eHb⟩ : ∃ Hb, upd Ha D (SetT X.prog X.w D (fun _ => false) 0) = Hb := ⟨_, rfl⟩
  rw [eHb] at Ib
  have few : ∀ b ∈ fp, b < D := fun b m => by
    obtain ⟨o, e, _⟩ := T.obj 0 _ t0 b m
    rw [← hD]
    exact Heap.lt_size e
  have offB : ∀ b ∈ fp, FpOk X pins Hb b ∧ b < sb.heap.objs.size := fun b m => by
    have lt := few b m
    refine ⟨⟨?_, (off b m).2⟩, ?_⟩
    · rw [← eHb, upd_ne (Nat.ne_of_lt lt)]
      exact (off b m).1
    · rw [hb, Heap.size_push, hD]
      exact Nat.lt_succ_of_lt lt
  have It := block_start Ib ok hN offB
  obtain ⟨C, hC⟩ : ∃ C, sb.heap.objs.size = C := ⟨_, rfl⟩
  have gg := hg sb Hb C (cellsFrom (C + 1) scope.names (cloFrom X.env.cells scope.names [])) fp
  have ee := he sb Hb C (cellsFrom (C + 1) scope.names (cloFrom X.env.cells scope.names [])) fp
  rw [how, hC] at It
  have esa : ({ sa with heap := sa.heap.push (blank X.w) } : Shared).heap.objs.size = C := by rw [esb]; exact hC
  show codeAny _ _ (.compStart _ 0 (.ref it) (.ref D) (compEnvC scope (cellsFrom (({ sa with heap := sa.heap.push (blank X.w) } : Shared).heap.objs.size + 1) scope.names (cloFrom X.env.cells scope.names [])) ({ sa with heap := sa.heap.push (blank X.w) } : Shared).heap.objs.size X.env)) (compPost _ _ _ none _ (.ref D) ({ sa with heap := sa.heap.push (blank X.w) } : Shared).heap.objs.size) { ({ sa with heap := sa.heap.push (blank X.w) } : Shared) with heap := pushCells (({ sa with heap := sa.heap.push (blank X.w) } : Shared).heap.push { cls := .type "dict", data := .dict #[] }) scope.names }
  rw [esb, hC]
  obtain ⟨N, eN⟩ : ∃ N, compEnvC scope (cellsFrom (C + 1) scope.names (cloFrom X.env.cells scope.names [])) C X.env = N := ⟨_, rfl⟩
  have locN : N.locals = C := by rw [← eN]; rfl
  rw [eN] at It gg ee ⊢
  obtain ⟨sc, esc⟩ : ∃ sc : Shared, { sb with heap := pushCells (sb.heap.push { cls := .type "dict", data := .dict #[] }) scope.names } = sc := ⟨_, rfl⟩
  rw [esc] at It ⊢
  have tc : tn 0 sc.heap := T.keep _ _ _ t0 fun b _ o e => by
    rw [← esc]
    exact pushCells_keeps _ _ _ _ (Heap.get?_push_of_some _ (grow b o e))
  -- the iterator's objects stay as they are while the block runs
  have still : ∀ {τ : L2.St} {H' : Hp} {s' : Shared}, Inv (X.blk sb Hb scope N fp) [] τ H' s' → (∀ b ∈ fp, H' b = none) → ∀ b ∈ fp, FpOk (X.blk sb Hb scope N fp) [] H' b := fun J none b m =>
    ⟨none b m, (J.ok.exf b m).1, J.ok.exfs b m, .inl m, fun x c e => (J.ok.exf b m).2 x c e, fun p hp => by cases hp⟩
  have tupAt : ∀ {c : Nat} {S : Str → Bool}, SqT X.K (upd Ha D (SetT X.prog X.w D S c)) a xs := fun {c S} => Kp.seqT (ex := []) (Kp.laid noD) (by simp) hx
  let W : Nat → Shared → Prop := fun m s' => ∃ j c, m = xs.length - j ∧ j ≤ xs.length ∧ c ≤ j ∧ Inv (X.blk sb Hb scope N fp) [] (wipe σ [i]) (upd Ha D (SetT X.prog X.w D (upTo zs j) c)) s' ∧ tn j s'.heap ∧ ∀ b ∈ fp, upd Ha D (SetT X.prog X.w D (upTo zs j) c) b = none
  have start : W xs.length sc := ⟨0, 0, by omega, Nat.zero_le _, Nat.le_refl _, by rw [upTo_zero, eHb]; exact It, tc, fun b m => by rw [upTo_zero, eHb]; exact (offB b m).1.1⟩
  refine PpSet.codeAny_compStart_set ?loop (T.self X.A 0 _ _ _ tc ?loop)
  refine PpSet.compLoopS_any W (fun m s' hW => ?_) xs.length start
  obtain ⟨j, c, rfl, hj, hcj, J, tj, noJ⟩ := hW
  rcases Nat.lt_or_ge j xs.length with lt | ge
  · -- one more item
    have hxj : xs[j]? = some xs[j] := List.getElem?_eq_getElem lt
    have ltz : j < zs.length := by omega
    have hzj : zs[j]? = some zs[j] := List.getElem?_eq_getElem ltz
    refine thnF (T.item (X.blk sb Hb scope N fp) rfl rfl rfl hc j [] s' _ _ (fun _ _ => False) J (still J noJ) tj ⟨xs, xs[j], tupAt, hxj⟩) fun r s1 ⟨u, er, h1⟩ => ?_
    subst er
    refine thnF h1 fun _ s2 ⟨x, H2, J2, ru, ⟨eH, yx⟩, t2, no2⟩ => ?_
    have ex : xs[j]? = some x := yx xs tupAt
    rw [hxj] at ex
    cases ex
    subst eH
    have J2p := J2.pinned (still J2 no2) (T.obj _ _ t2)
    refine thnF (gg.run _ s2 _ _ _ u (fun τ H3 => τ = (wipe σ [i]).set i (some xs[j]) ∧ H3 = upd Ha D (SetT X.prog X.w D (upTo zs j) c)) J2p ru ⟨rfl, rfl⟩) fun _ s3 ⟨τ, H3, J3, eτ, eH3⟩ => ?_
    subst eτ eH3
    refine wpAny_pure ?_
    show if true = true then _ else _
    rw [if_pos rfl]
    refine thnF (ee.run _ s3 _ _ (fun v H4 => v = .str zs[j] ∧ H4 = upd Ha D (SetT X.prog X.w D (upTo zs j) c)) J3 (step j _ _ _ _ hxj hzj (Kp.laid noD) ⟨rfl, rfl⟩)) fun u4 s4 ⟨v4, H4, J4, r4, ev, eH4⟩ => ?_
    subst ev eH4
    obtain ⟨t4, rfl⟩ : ∃ t, u4 = Value.str zs[j] t := r4
    have room : c + 1 < scanBound := by unfold scanBound; omega
    refine setT_put (setT_get (X := X.blk sb Hb scope N fp) J4 upd_same) room fun g sm R tk => ?_
    have gone : ∃ u, g.get? D = some u := by
      obtain ⟨o, _, _, _, ⟨ho, _⟩, _⟩ := R
      exact ⟨o, ho⟩
    have J5 := J4.write (e := D) (t' := tk) (by rw [upd_same]; trivial) (.inl rfl) (fun b u hbD hu => (sm.2 b hbD).trans hu) gone (setT_new R)
    rw [upd_upd, upTo_next hzj] at J5
    have pin : ∀ b ∈ fp, ∀ o, s2.heap.get? b = some o → g.get? b = some o ∧ _ := fun b m o e => J5.pin (b, o) (List.mem_append_right _ (List.mem_append_right _ (mem_pinsAt m e)))
    have len : (wipe σ [i]).length = ((wipe σ [i]).set i (some xs[j])).length := by rw [List.length_set]
    refine ⟨xs.length - (j + 1), by omega, j + 1, if upTo zs j zs[j] = true then c else c + 1, rfl, lt, by split <;> omega, (J5.unpinned (pins := [])).weak len (fun k v e => ?_), T.keep _ _ _ t2 fun b m o e => (pin b m o e).1, fun b m => ?_⟩
    · have ne : i ≠ k := fun z => (wipe_some e).2 (by rw [z]; exact List.mem_singleton.mpr rfl)
      rw [List.getElem?_set_ne ne]
      exact e
    · obtain ⟨o, e, _⟩ := T.obj _ _ t2 b m
      exact (pin b m o e).2.1
  · -- the end
    have ej : j = xs.length := by omega
    have ejz : j = zs.length := by omega
    refine thnF (T.done (X.blk sb Hb scope N fp) rfl rfl rfl hc j [] s' _ _ (fun _ _ => False) J (still J noJ) tj ⟨xs, tupAt, ge⟩) fun r s1 ⟨er, J1⟩ => ?_
    subst er
    have sets := setG_size (P := X.prog) (w := X.w) (zs := zs) (n := c) (a := D) (h := s1.heap) (by have := setT_get (X := X.blk sb Hb scope N fp) J1 upd_same; rw [ejz, upTo_all] at this; exact this)
    have noC : (upd Ha D (SetT X.prog X.w D (upTo zs j) c)) C = none := by
      have z : (upd Ha D (SetT X.prog X.w D (upTo zs j) c)) N.locals = none := J1.free
      rw [locN] at z
      exact z
    obtain ⟨m, hm, _⟩ := J1.loc
    have hm : s1.heap.Ns N.locals m := hm
    rw [locN] at hm
    have J2 : Inv X pins σ (upd Ha D (SetT X.prog X.w D (upTo zs j) c)) s1 := Ib.call' (ch := fp) J1.os J1.base J1.hok J1.bare fun b hb => ⟨(offB b hb).1.2.2.2.1, (offB b hb).1.2.1, (offB b hb).1.2.2.2.2.1, (offB b hb).1.2.2.2.2.2⟩
    obtain ⟨f0, f1, f2, f3, f4, f5⟩ := Ib.fpOk (Nat.le_of_eq hC) noC
    refine ⟨m, hm, fun g sm => ⟨.ref D, _, J2.turned (t' := s1.toks) (fun b o ne e => (sm.2 b ne).trans e) f0 f1 f3 f4 f5, rfl, ?_⟩⟩
    rw [ejz, upTo_all]
    exact fin D c sets.1 sets.2 noD
end
end NV
/-! L9a -/
set_option Elab.async false
set_option linter.all false
set_option maxRecDepth 100000
set_option maxHeartbeats 1000000
namespace NV
open PySem PySem.Spec PyProof.Rows L2
open C8 (pss_cut)
section
variable {X : Cx} {nm : Str} {st : Stmt} {ps ks : List Str} {sp : Sp} {p pos : Pos} {kws : List Keyword} {tk : TA}
theorem pe_kw0 {j k : Nat} (D : Fn X.K X.mg nm st ps) (G : FnOk X.prog X.w X.K X.mg X.base CX0 j D.f D.fd ps sp) (hr : Room k X.A) (hb : KBinds X.K D.fd ps ks (· ++ ·) (· ++ ·)) (hkw : PK X kws tk)
    (hk : j ≤ k := by decide) (hg : Gl X nm := by rfl) (hall : (backToKw pos (keywordEach kws X.env)).all (·.1.isSome) = true := by rfl) (hks : (backToKw pos (keywordEach kws X.env)).filterMap (·.1) = ks := by rfl) (hdb : (nm == ("__debug__" : Str)) = false := by decide)
    (hpl : ((backTo pos (starEach [] X.env)).any (·.1) || (backToKw pos (keywordEach kws X.env)).any (·.1.isNone)) = false := by rfl) :
    PE X (.Call (.Name nm p) [] kws pos) (tCallK sp (· ++ ·) (fun _ _ _ => False) tNil tk) := by
  refine ⟨fun pins s σ H Q I h => wpAny_Call_Name_kw (ld_glob I hg D.m ?_ hdb)⟩
  refine PySem.W.callWith_KW0 (h₀ := X.base) I.ok.mod.kin D.F.kp hall (thn (hkw.run pos pins s σ H _ I h) fun ws s2 ⟨zs, H2, I2, rz, q2⟩ => ⟨I2.kIn, ?_⟩) hpl
  rw [hks]
  exact run_fnk G (hr.mono hk) hb pass0 I2 .nil rz q2
theorem sltAE (K : PySem.W.Frag) (h : X.K = K := by rfl) : SlR X (rSlA K) := by
  rw [← h]; exact sl_tupA
end
/-! ### tables that grow beside -/
def Tabs (T : List Addr) (H : Hp) : Prop := ∀ p ∈ T, GxR.TabG H p
theorem Tabs.kp {T : List Addr} {H H' : Hp} (t : Tabs T H) (k : Kp [] H H') : Tabs T H' := fun p hp => by
  obtain ⟨ps, e, o⟩ := t p hp
  exact ⟨ps, k _ _ (by simp) e, o⟩
/-- n draws are left, the tables T stand -/
structure DT (D : Dr) (T : List Addr) (n : Nat) (H : Hp) : Prop where
  dr : DrAt D n H
  tb : Tabs T H
section
variable {D : Dr} {T : List Addr} {n m : Nat} {H H' : Hp}
theorem DT.off (d : DT D T n H) {p : Addr} (hp : p ∈ T) : p ∉ D.all := fun z => by
  obtain ⟨ps, e, _⟩ := d.tb p hp
  obtain ⟨_, large, items, left, turn, h1, h2, h3, _⟩ := d.dr
  rcases List.mem_cons.mp z with z | z
  · rw [z, h1] at e; cases e
  · rcases List.mem_cons.mp z with z | z
    · rw [z, h2] at e; cases e
    · rw [List.mem_singleton.mp z, h3] at e; cases e
theorem DT.less (d : DT D T n H) (h : m ≤ n) : DT D T m H := ⟨d.dr.less h, d.tb⟩
theorem DT.keep (d : DT D T n H) (k : Kp [] H H') : DT D T n H' := ⟨d.dr.keep k, d.tb.kp k⟩
theorem DT.draw (d : DT D T n H) (k : Kp D.ex H H') (d' : DrAt D m H') : DT D T m H' := ⟨d', fun p hp => by
  obtain ⟨ps, e, o⟩ := d.tb p hp
  exact ⟨ps, k _ _ (Dr.sub (d.off hp)) e, o⟩⟩
theorem DT.pkg (d : DT D T n H) (k : Kp T H H') (t : Tabs T H') : DT D T n H' := by
  refine ⟨?_, t⟩
  have nT : ∀ b ∈ D.all, b ∉ T := fun b hb z => d.off z hb
  obtain ⟨h0, large, items, left, turn, h1, h2, h3, h4⟩ := d.dr
  exact ⟨h0, large, items, left, turn, k _ _ (nT _ (by simp)) h1, k _ _ (nT _ (by simp)) h2, k _ _ (nT _ (by simp)) h3, h4⟩
theorem DT.live (d : DT D T n H) : Live (T ++ D.ex) H := fun b hb => by
  rcases List.mem_append.mp hb with z | z
  · obtain ⟨ps, e, _⟩ := d.tb b z
    rw [e]; exact fun q => nomatch q
  · obtain ⟨_, large, items, left, turn, h1, h2, _⟩ := d.dr
    rcases List.mem_cons.mp z with z | z
    · rw [z, h1]; exact fun q => nomatch q
    · rw [List.mem_singleton.mp z, h2]; exact fun q => nomatch q
theorem DT.fresh (d : DT D T n H) {p : Addr} (hp : H p = none) : p ∉ T ++ D.ex := d.live.fresh hp
end
/-- a comprehension over a list or a tuple whose element lays things and lets tables grow -/
theorem lc_growLT {K : PySem.W.Frag} {tt : TT} {te : TE} {i : Nat} {σ : L2.St} {C a : Addr} {T : List Addr} {xs : List V} {H1 : Hp} {Qd : Hp → Prop} (f : Nat → V) (ha : H1 a = some (.lst xs)) (nC : H1 C = none) (tb : Tabs T H1) (hz : xs.length < sizeLine)
    (htt : ∀ (H : Hp) (Q : Bool → Hp → Prop) (x : V), Q true H → tt ((wipe σ [i]).set i (some x)) H Q)
    (hte : ∀ (j : Nat) (x : V) (H : Hp) (Q : V → Hp → Prop), xs[j]? = some x → Kp T H1 H → Tabs T H → (∀ H', Kp T H H' → Tabs T H' → Q (f j) H') → te ((wipe σ [i]).set i (some x)) H Q)
    (hd : ∀ H', Kp T H1 H' → Tabs T H' → H' C = some (.lst ((List.range xs.length).map f)) → Qd H') :
    ∃ W : Nat → Nat → Hp → Prop, (∃ m, W 0 m (upd H1 C (.lst []))) ∧ ∀ i' m H, W i' m H →
      ((Itl K a).stop i' H ∧ Qd H) ∨ ((Itl K a).go i' H ∧ ∃ Nx : Hp → Prop, (∀ H', Nx H' → ∃ m', m' < m ∧ W (i' + 1) m' H') ∧ ∀ x H', (Itl K a).yld i' H x H' → gName i x (wipe σ [i]) H' fun σ2 H2 => wipe σ2 [i] = wipe σ [i] ∧ tt σ2 H2 fun b H3 =>
        if b = true then te σ2 H3 fun y H4 => ∃ acc, H4 C = some (.lst acc) ∧ acc.length < sizeLine ∧ Nx (upd H4 C (.lst (acc ++ [y]))) else Nx H3) := by
  have nT : ∀ {b : Addr} {xs : List V}, H1 b = some (.lst xs) → b ∉ T := fun e z => by
    obtain ⟨ps, e', _⟩ := tb _ z
    rw [e] at e'
    cases e'
  have CT : C ∉ T := fun z => by
    obtain ⟨ps, e', _⟩ := tb _ z
    rw [nC] at e'
    cases e'
  have step : ∀ {H : Hp}, Kp (C :: T) H1 H → Kp T H1 H := fun k b o hb e => k b o (fun z => by
    rcases List.mem_cons.mp z with z | z
    · rw [z, nC] at e; cases e
    · exact hb z) e
  refine lc_list (K := K) (a := a) (xs := xs) (fun j H' => Kp (C :: T) H1 H' ∧ Tabs T H' ∧ H' C = some (.lst ((List.range j).map f))) ⟨Kp.laid nC, tb.kp (Kp.laid nC), upd_same⟩ (fun j H' _ e => .inl (.inl (step e.1 _ _ (nT ha) ha))) (fun j x H' hx e => ?_) (fun H' e => hd H' (step e.1) e.2.1 e.2.2)
  obtain ⟨k1, t1, e1⟩ := e
  have hj : j < xs.length := (List.getElem?_eq_some_iff.mp hx).1
  refine ⟨wipe_again, htt _ _ x ?_⟩
  refine iteT (hte j x _ _ hx (step k1) t1 fun H3 k3 t3 => ⟨_, k3 _ _ CT e1, ?_, ?_⟩)
  · rw [List.length_map, List.length_range]
    omega
  · refine ⟨(k1.trans (k3.mono fun b hb => List.mem_cons_of_mem _ hb)).trans (Kp.put (by simp)), fun p hp => ?_, ?_⟩
    · obtain ⟨ps, e', o⟩ := t3 p hp
      exact ⟨ps, by rw [upd_ne (fun z => CT (by rw [← z]; exact hp))]; exact e', o⟩
    · rw [upd_same, List.range_succ, List.map_append]
      rfl
theorem lc_growTT {K : PySem.W.Frag} {tt : TT} {te : TE} {i : Nat} {σ : L2.St} {C a : Addr} {T : List Addr} {xs : List V} {H1 : Hp} {Qd : Hp → Prop} (f : Nat → V) (ha : H1 a = some (.tup xs)) (nC : H1 C = none) (tb : Tabs T H1) (hz : xs.length < sizeLine)
    (htt : ∀ (H : Hp) (Q : Bool → Hp → Prop) (x : V), Q true H → tt ((wipe σ [i]).set i (some x)) H Q)
    (hte : ∀ (j : Nat) (x : V) (H : Hp) (Q : V → Hp → Prop), xs[j]? = some x → Kp T H1 H → Tabs T H → (∀ H', Kp T H H' → Tabs T H' → Q (f j) H') → te ((wipe σ [i]).set i (some x)) H Q)
    (hd : ∀ H', Kp T H1 H' → Tabs T H' → H' C = some (.lst ((List.range xs.length).map f)) → Qd H') :
    ∃ W : Nat → Nat → Hp → Prop, (∃ m, W 0 m (upd H1 C (.lst []))) ∧ ∀ i' m H, W i' m H →
      ((Itt K a).stop i' H ∧ Qd H) ∨ ((Itt K a).go i' H ∧ ∃ Nx : Hp → Prop, (∀ H', Nx H' → ∃ m', m' < m ∧ W (i' + 1) m' H') ∧ ∀ x H', (Itt K a).yld i' H x H' → gName i x (wipe σ [i]) H' fun σ2 H2 => wipe σ2 [i] = wipe σ [i] ∧ tt σ2 H2 fun b H3 =>
        if b = true then te σ2 H3 fun y H4 => ∃ acc, H4 C = some (.lst acc) ∧ acc.length < sizeLine ∧ Nx (upd H4 C (.lst (acc ++ [y]))) else Nx H3) := by
  have nT : ∀ {b : Addr} {xs : List V}, H1 b = some (.tup xs) → b ∉ T := fun e z => by
    obtain ⟨ps, e', _⟩ := tb _ z
    rw [e] at e'
    cases e'
  have CT : C ∉ T := fun z => by
    obtain ⟨ps, e', _⟩ := tb _ z
    rw [nC] at e'
    cases e'
  have step : ∀ {H : Hp}, Kp (C :: T) H1 H → Kp T H1 H := fun k b o hb e => k b o (fun z => by
    rcases List.mem_cons.mp z with z | z
    · rw [z, nC] at e; cases e
    · exact hb z) e
  refine lc_tup (K := K) (a := a) (xs := xs) (fun j H' => Kp (C :: T) H1 H' ∧ Tabs T H' ∧ H' C = some (.lst ((List.range j).map f))) ⟨Kp.laid nC, tb.kp (Kp.laid nC), upd_same⟩ (fun j H' _ e => .inl (.inl (step e.1 _ _ (nT ha) ha))) (fun j x H' hx e => ?_) (fun H' e => hd H' (step e.1) e.2.1 e.2.2)
  obtain ⟨k1, t1, e1⟩ := e
  have hj : j < xs.length := (List.getElem?_eq_some_iff.mp hx).1
  refine ⟨wipe_again, htt _ _ x ?_⟩
  refine iteT (hte j x _ _ hx (step k1) t1 fun H3 k3 t3 => ⟨_, k3 _ _ CT e1, ?_, ?_⟩)
  · rw [List.length_map, List.length_range]
    omega
  · refine ⟨(k1.trans (k3.mono fun b hb => List.mem_cons_of_mem _ hb)).trans (Kp.put (by simp)), fun p hp => ?_, ?_⟩
    · obtain ⟨ps, e', o⟩ := t3 p hp
      exact ⟨ps, by rw [upd_ne (fun z => CT (by rw [← z]; exact hp))]; exact e', o⟩
    · rw [upd_same, List.range_succ, List.map_append]
      rfl
/-- the package's promises, its tables T beside -/
def spIsLogT (T : List Addr) : Sp := fun vs H Q _ => ∃ (v : V) (d : PyData) (ex : List Addr), vs = [v] ∧ Rp ex H d v ∧ Good d ∧ (∀ p ∈ T, p ∈ ex) ∧ Tabs T H ∧ ∀ H', Kp T H H' → Tabs T H' → Q (.bl (logD' d)) H'
def spIsEntryT (T : List Addr) : Sp := fun vs H Q _ => ∃ (v : V) (d : PyData) (ex : List Addr), vs = [v] ∧ Rp ex H d v ∧ Good d ∧ (∀ p ∈ T, p ∈ ex) ∧ Tabs T H ∧ ∀ H', Kp T H H' → Tabs T H' → Q (.bl (entryD d)) H'
end NV
/-! Q4 -/
set_option Elab.async false
set_option linter.all false
set_option maxRecDepth 100000
set_option maxHeartbeats 600000
/-! the package's is_log -/
namespace NV
open PySem PySem.Spec PyProof.Rows L2
open C8 (pss_cut pe_gc)
abbrev sIsLogWithin : Stmt := topS 29
theorem scIsLogWithin : FnScope ["value", "most", "known", "entry"] ["value", "most"] (defScope sIsLogWithin) := ⟨rfl, rfl, rfl, by decide +kernel, rfl, by decide +kernel, by decide +kernel⟩
abbrev sIsLog : Stmt := topS 30
theorem scIsLog : FnScope ["value"] ["value"] (defScope sIsLog) := ⟨rfl, rfl, rfl, by decide +kernel, rfl, by decide +kernel, by decide +kernel⟩
/-- a log but for its length -/
def logDn (m : Nat) : PyData → Bool
  | .tuple ds => decide (ds.length ≤ m) && ds.all entryD && decide ((ds.map idOfD).Nodup)
  | _ => false
theorem logDn_no {m : Nat} {d : PyData} (h : isD "tuple" d = false) : logDn m d = false := by
  cases d with
  | tuple ds => exact absurd h (by simp [isD, tyN])
  | _ => rfl
theorem logDn_60 (d : PyData) : logDn 60 d = logD' d := by cases d <;> rfl
mutual
theorem Rp.apart {ex : List Addr} {H : Hp} {p : Addr} (hp : H p = none) : ∀ (d : PyData) (v : V), Rp ex H d v → Rp (p :: ex) H d v
  | .none, _, h => h
  | .bool _, _, h => h
  | .int _, _, h => h
  | .str _, _, h => h
  | .list ds, v, h => by
    obtain ⟨a, xs, e, na, h1, h2⟩ := h
    exact ⟨a, xs, e, fun z => (List.mem_cons.mp z).elim (fun q => by rw [q, hp] at h1; cases h1) na, h1, RpAll.apart hp ds xs h2⟩
  | .tuple ds, v, h => by
    obtain ⟨a, xs, e, na, h1, h2⟩ := h
    exact ⟨a, xs, e, fun z => (List.mem_cons.mp z).elim (fun q => by rw [q, hp] at h1; cases h1) na, h1, RpAll.apart hp ds xs h2⟩
  | .dict kvs, v, h => by
    obtain ⟨e0, a, e, na, h1⟩ := h
    exact ⟨e0, a, e, fun z => (List.mem_cons.mp z).elim (fun q => by rw [q, hp] at h1; cases h1) na, h1⟩
theorem RpAll.apart {ex : List Addr} {H : Hp} {p : Addr} (hp : H p = none) : ∀ (ds : List PyData) (vs : List V), RpAll ex H ds vs → RpAll (p :: ex) H ds vs
  | [], _, h => h
  | d :: ds, vs, h => by
    obtain ⟨v, ws, e, h1, h2⟩ := h
    exact ⟨v, ws, e, Rp.apart hp d v h1, RpAll.apart hp ds ws h2⟩
end
/-- a predicate of data, asked by a def that only lays new things -/
def spAskD (f : PyData → Bool) : Sp := fun vs H Q _ => ∃ (v : V) (d : PyData) (ex : List Addr), vs = [v] ∧ Rp ex H d v ∧ niceD d = true ∧ ∀ H', Kp [] H H' → Q (.bl (f d)) H'
def spAskN : Sp := fun vs H Q _ => ∃ (v : V) (d : PyData) (m : Nat) (ex : List Addr), vs = [v, .int (m : Nat)] ∧ m ≤ 900 ∧ Rp ex H d v ∧ niceD d = true ∧ ∀ H', Kp [] H H' → Q (.bl (logDn m d)) H'
section
variable {P : Program} {w : World} {K : PySem.W.Frag} {mg : Str → Option Value} {base : Heap}
theorem ok_plogw (DIsLogWithin : Fn K mg "is_log_within" sIsLogWithin ["value", "most"]) (DIsEntryWith : Fn K mg "is_entry_with" sIsEntryWith ["value", "known"]) (b_isinstance : mg "isinstance" = none) (b_len : mg "len" = none) (b_tuple : mg "tuple" = none) (g2 : ∃ u, mg "ID" = some u ∧ L2.RelV (.int 1) u)
    (GIsEntryWith : FnOk P w K mg base CX0 4 DIsEntryWith.f DIsEntryWith.fd ["value", "known"] spEntryK) : FnOk P w K mg base CX0 5 DIsLogWithin.f DIsLogWithin.fd ["value", "most"] spAskN := by
  refine DIsLogWithin.F.ok scIsLogWithin (fun vs H Q E h => ?_) (fun cdv A outer s H vs Q E hr h => ?_)
  · obtain ⟨v, d, m, ex, rfl, _⟩ := h
    rfl
  obtain ⟨v, d, m, ex, rfl, hm, hd, hn, q⟩ := h
  refine ⟨_, pss_cons (ps_if (PW.pt (pw_or (pt_not (pt_val (pe_callB (cr_isD (T := "tuple") (by decide)) (by rfl) b_isinstance (by decide +kernel) (pa_cons (pv 0) (pa_cons (pe_bltn (v := .ty "tuple") rfl b_tuple (by rfl) rfl) pa_nil))))) (pw_or1 (pt_cmpR op_gt (pe_callB (lenE K) (by rfl) b_len (by decide +kernel) (pa_cons (pv 0) pa_nil)) (pv 1) (nomark _)))))
      (pss_one (ps_ret pe_bl))
      pss_nil)
      (pss_cons (ps_set (i := 2) scIsLogWithin.nd rfl (.inl rfl) pe_dnewK)
      (pss_cons (ps_for PassesOwn.never rfl (piTupE K (pv 0)) (pg_name (i := 3) scIsLogWithin.nd rfl (.inl rfl))
      (pss_one (ps_if (pt_not (pt_val (pe_fn DIsEntryWith GIsEntryWith hr (pa_cons (pv 3) (pa_cons (pv 2) pa_nil)))))
      (pss_one (ps_ret pe_bl))
      pss_nil)))
      (pss_one (ps_ret (pe_cmpR op_eq (pe_callB (lenTxE P w) (by rfl) b_len (by decide +kernel) (pa_cons (pe_setC (i := 3) (own := [("entry", 3)]) K P w rfl scIsLogWithin.nd (pv 0) (blkOk_by (N := ["value", "most", "known", "entry"]) (sc := defScope sIsLogWithin) (by decide +kernel)) (fun _ _ _ _ _ => pg_name (i := 3) scIsLogWithin.nd rfl (.inl rfl)) (fun _ _ _ _ _ => pe_ix (ixtE K) (pv 3) (pe_gc (v := .int 1) rfl g2) (fun _ _ => rfl))) pa_nil)) (pe_callB (lenE K) (by rfl) b_len (by decide +kernel) (pa_cons (pv 0) pa_nil)) (nomark _)))))), ?_⟩
  refine ⟨_, rfl, v, d, ex, rfl, hd, _, rfl, ?_⟩
  cases hs : isD "tuple" d with
  | false =>
    refine iteT ?_
    rw [← logDn_no hs]
    exact q H Kp.refl
  | true =>
    obtain ⟨ds, rfl⟩ := tup_of_isD hs
    obtain ⟨a, xs, rfl, na, ha, hxs⟩ := hd
    have hl := hxs.length
    have n2 := nice_tup hn
    have ld : ∀ b1 b2 b3 : Bool, decide (ds.length ≤ m) = b1 → ds.all entryD = b2 → decide ((ds.map idOfD).Nodup) = b3 → logDn m (.tuple ds) = (b1 && b2 && b3) := fun b1 b2 b3 z1 z2 z3 => by
      show (decide (ds.length ≤ m) && ds.all entryD && decide ((ds.map idOfD).Nodup)) = _
      rw [z1, z2, z3]
    refine iteF ⟨_, rfl, a, xs, rfl, .inr (.inl (.inl ha)), _, rfl, _, _, rfl, rfl, _, rfl, ?_⟩
    by_cases h60 : (xs.length : Int) > (m : Nat)
    · rw [decide_eq_true h60]
      refine iteT ?_
      have e := ld false _ _ (decide_eq_false (by omega)) rfl rfl
      rw [Bool.false_and, Bool.false_and] at e
      rw [← e]
      exact q H Kp.refl
    · rw [decide_eq_false h60]
      refine iteF fun kd nk => ?_
      have k0 : Kp [] H (upd H kd (.dK [])) := Kp.laid nk
      have kn0 : Known kd 0 (upd H kd (.dK [])) := ⟨[], upd_same, (fun z hz => by cases hz), Nat.le_refl _⟩
      have hx0 : RpAll (kd :: ex) (upd H kd (.dK [])) ds xs := RpAll.keep (k0.mono (by simp)) _ _ (RpAll.apart nk _ _ hxs)
      have back : ∀ {H' : Hp}, Kp [kd] (upd H kd (.dK [])) H' → Kp [] H H' := fun k => Kp.drop ((k0.mono (by simp)).trans k) nk
      generalize upd H kd (.dK []) = H0 at k0 kn0 hx0 back
      have akd : a ≠ kd := fun z => by rw [z, nk] at ha; cases ha
      have ha0 : H0 a = some (.tup xs) := k0 _ _ (by simp) ha
      have aT : ∀ {H' : Hp}, Kp [kd] H0 H' → SqT K H' a xs := fun k => .inl (.inl (k _ _ (by simpa using akd) ha0))
      refine ⟨_, rfl, a, rfl, ⟨_, .inl (.inl ha0)⟩, for_tup (K := K) (a := a) (xs := xs) (fun j σ H' => ∃ entry : Option V, σ = [some (.ref a), some (.int (m : Nat)), some (.ref kd), entry] ∧ Kp [kd] H0 H' ∧ Known kd (6 * j) H' ∧ ∀ d ∈ ds.take j, entryD d = true)
        ⟨none, rfl, Kp.refl, kn0, by simp⟩ ?_ ?_ ?_⟩
      · rintro j σ H' hj ⟨_, _, k, _⟩
        exact aT k
      · rintro j x σ H' hx ⟨entry, rfl, k, kj, all⟩
        have hj : j < xs.length := (List.getElem?_eq_some_iff.mp hx).1
        obtain ⟨e, he1, he2⟩ := RpAll.back hx0 hx
        have ke := Rp.keep (k.mono (by simp)) _ _ he2
        refine ⟨_, rfl, _, rfl, x, e, kd :: ex, kd, 6 * j, rfl, ke, n2 e (List.mem_of_getElem? he1), by simp, kj, by omega, fun H2 k2 kn2 => ⟨_, rfl, ?_⟩⟩
        cases hw : entryD e with
        | false =>
          refine iteT ?_
          have el := ld _ false _ rfl (by
            rw [← Bool.not_eq_true, List.all_eq_true]
            intro h
            rw [h e (List.mem_of_getElem? he1)] at hw
            cases hw) rfl
          rw [Bool.and_false, Bool.false_and] at el
          rw [← el]
          exact q H2 (back (k.trans k2))
        | true =>
          refine iteF ⟨_, rfl, k.trans k2, kn2.more (by omega), fun d hd => ?_⟩
          rw [List.take_add_one, he1] at hd
          rcases List.mem_append.mp hd with h | h
          · exact all d h
          · rw [show d = e by simpa using h]; exact hw
      · rintro σ H' ⟨entry, rfl, k, kj, all⟩
        rw [← hl, List.take_length] at all
        have hall : ds.all entryD = true := List.all_eq_true.mpr all
        have ids : ∀ j (hj : j < ds.length), (ds.map idOfD)[j]? = some (idOfD ds[j]) := fun j hj => by rw [List.getElem?_map, List.getElem?_eq_getElem hj]; rfl
        have hx1 : RpAll (kd :: ex) H' ds xs := RpAll.keep (k.mono (by simp)) _ _ hx0
        refine ⟨_, rfl, a, rfl, ⟨_, aT k⟩, a, xs, ds.map idOfD, rfl, aT k, by rw [List.length_map]; exact hl, by rw [List.length_map]; omega, fun j x z H2 Q2 hx hz k2 q2 => ?_, fun D n hn1 hn2 nD => ?_⟩
        · have hj : j < ds.length := by rw [hl]; exact (List.getElem?_eq_some_iff.mp hx).1
          obtain ⟨e, he1, he2⟩ := RpAll.back hx1 hx
          obtain ⟨kk, zz, r, rfl, _⟩ := entry_shape (all e (List.mem_of_getElem? he1))
          obtain ⟨b, ys, rfl, nb, hb, hys⟩ := Rp.keep (k2.mono (by simp)) _ _ he2
          have ez : zz = z := by
            rw [List.getElem?_map, he1] at hz
            exact Option.some.inj hz
          refine ⟨_, rfl, ixD (j := 1) rfl hb hys rfl fun vz rz => ?_⟩
          obtain rfl : vz = .str zz := rz
          rw [ez]
          exact q2
        · have kD : Kp [] H' (upd H' D (SetT P w D (fun j => decide (j ∈ ds.map idOfD)) n)) := Kp.laid nD
          refine ⟨D, _, n, rfl, upd_same, _, rfl, a, xs, rfl, .inr (aT (k.trans (kD.mono (by simp)))), rfl, ?_⟩
          have e : decide (V.int (n : Int) = V.int (xs.length : Int)) = logDn m (.tuple ds) := by
            rw [ld true true _ (decide_eq_true (by omega)) hall rfl, Bool.true_and, Bool.true_and, decide_eq_decide]
            rw [List.length_map] at hn2
            rw [← hn2, ← hl]
            exact ⟨fun z => by injection z with z; omega, fun z => by rw [z]⟩
          rw [e]
          exact q _ ((back k).trans kD)
theorem ok_plog (DIsLog : Fn K mg "is_log" sIsLog ["value"]) (DIsLogWithin : Fn K mg "is_log_within" sIsLogWithin ["value", "most"]) (g1 : ∃ u, mg "MOST_ENTRIES" = some u ∧ L2.RelV (.int 60) u)
    (GIsLogWithin : FnOk P w K mg base CX0 5 DIsLogWithin.f DIsLogWithin.fd ["value", "most"] spAskN) : FnOk P w K mg base CX0 6 DIsLog.f DIsLog.fd ["value"] (spAskD logD') := by
  refine DIsLog.F.ok scIsLog (fun vs H Q E h => ?_) (fun cdv A outer s H vs Q E hr h => ?_)
  · obtain ⟨v, d, ex, rfl, _⟩ := h
    rfl
  obtain ⟨v, d, ex, rfl, hd, hn, q⟩ := h
  refine ⟨_, pss_one (ps_ret (pe_fn DIsLogWithin GIsLogWithin hr (pa_cons (pv 0) (pa_cons (pe_gc (v := .int 60) rfl g1) pa_nil)))), ?_⟩
  exact ⟨_, rfl, v, d, 60, ex, rfl, by decide, hd, hn, fun H' k => by rw [logDn_60]; exact q H' k⟩
end
end NV
/-! EntIx -/
set_option Elab.async false
set_option linter.all false
set_option maxRecDepth 100000
set_option maxHeartbeats 600000
/-! an entry's items by their places, and small rules -/
namespace NV
open PySem PySem.Spec PyProof.Rows L2
open C8 (pss_cut pe_gc)
theorem Live.kp0 {ex : List Addr} {H H' : Hp} (l : Live ex H) (k : Kp [] H H') : Live ex H' := fun b hb e => by
  cases h : H b with
  | none => exact l b hb h
  | some u => rw [k b u (by simp) h] at e; cases e
/-- the places of an entry's items -/
theorem ent_writes {e : Ent} (h : e.isW = true) : ∃ ds, e.data = .tuple ds ∧ ds[3]? = some (.tuple (e.ws.map .str)) ∧ ds[4]? = some (prD e.pr) := by
  cases e with
  | wr id rs ws pr => exact ⟨_, rfl, rfl, rfl⟩
  | qu id cs => cases h
theorem ent_reads (e : Ent) : ∃ ds, e.data = .tuple ds ∧ ds[1]? = some (.str e.id) ∧ ds[2]? = some (.tuple (e.rs.map .str)) := by
  cases e with
  | wr id rs ws pr => exact ⟨_, rfl, rfl, rfl⟩
  | qu id cs => exact ⟨_, rfl, rfl, rfl⟩
theorem strs_of {ex : List Addr} {H : Hp} : ∀ {zs : List Str} {xs : List V}, RpAll ex H (zs.map PyData.str) xs → xs = zs.map V.str
  | [], _, h => h
  | z :: zs, _, h => by
    obtain ⟨v, ws, rfl, h1, h2⟩ := h
    obtain rfl : v = .str z := h1
    rw [strs_of h2]
    rfl
/-- an item of an entry, by its place -/
theorem ent_ix {K : PySem.W.Frag} {ex : List Addr} {H : Hp} {e : Ent} {v : V} {ds : List PyData} {d : PyData} {j : Nat} {i : Int} {Q : VK} (r : Rp ex H e.data v) (ed : e.data = .tuple ds) (hj : ds[j]? = some d) (ei : i = (j : Int)) (q : ∀ u, Rp ex H d u → Q u H) : rIxT K v (.int i) H Q := by
  rw [ed] at r
  obtain ⟨a, xs, rfl, _, ha, hx⟩ := r
  exact ixD ei ha hx hj q
theorem c_of {v : V} {σ : L2.St} {H : Hp} {Q : VK} (h : Q v H) : tC v σ H Q := h
theorem ent_kind (e : Ent) : ∃ ds, e.data = .tuple ds ∧ ds[0]? = some (.str (if e.isW then "write" else "query")) := by
  cases e with
  | wr id rs ws pr => exact ⟨_, rfl, rfl⟩
  | qu id cs => exact ⟨_, rfl, rfl⟩
theorem pg_tupE {X : Cx} (K : PySem.W.Frag) {es : List Expr} {k : Nat} {t : TGs} {n : Nat} {pos : Pos} (hc : X.calm = true) (h : PGs X es t) (hK : X.K = K := by rfl)
    (hn : (assignEach es X.env).length = n := by rfl) (hst : (assignEach es X.env).findIdx? (·.1) = none := by rfl) : PG X (.Tuple es k pos) (gTup K n t) := by
  rw [← hK]
  exact pg_tup hc h hn hst
/-- a statement that is never reached -/
theorem ps_dead {X : Cx} (st : Stmt) : PS X st (fun _ _ _ => False) := ⟨fun _ _ _ _ _ _ h => h.elim⟩
theorem yes_on {σ : L2.St} {H : Hp} {A B : Hp → Prop} (h : A H) : tYes σ H (fun b H3 => if b = true then A H3 else B H3) := by
  delta tYes
  dsimp only
  rw [if_pos rfl]
  exact h
theorem ok_cells_nd {l : Nat} {cs : List Str} (h : CellsOk l cs) : cs.Nodup := h.asc.nodup
theorem Ent.Ok.rs {e : Ent} (h : e.Ok) : e.rs.Nodup ∧ e.rs.length ≤ 3 := by
  cases e with
  | wr id rs ws pr => exact ⟨h.2.1.asc.nodup, h.2.1.hi⟩
  | qu id cs => exact ⟨h.2.asc.nodup, h.2.hi⟩
theorem Ent.Ok.ws {e : Ent} (h : e.Ok) : e.ws.Nodup ∧ e.ws.length ≤ 3 := by
  cases e with
  | wr id rs ws pr => exact ⟨h.2.2.1.asc.nodup, h.2.2.1.hi⟩
  | qu id cs => exact ⟨.nil, Nat.zero_le _⟩
theorem nodup_take {l : List Str} {j : Nat} {c : Str} (nd : l.Nodup) (h : l[j]? = some c) : c ∉ l.take j := fun z => by
  obtain ⟨i, hi, e⟩ := List.mem_iff_getElem.mp z
  rw [List.length_take] at hi
  rw [List.getElem_take] at e
  have hj := (List.getElem?_eq_some_iff.mp h)
  obtain ⟨hj, e2⟩ := hj
  have := (List.nodup_iff_pairwise_ne.mp nd)
  rw [List.pairwise_iff_getElem] at this
  exact this i j (by omega) hj (by omega) (by rw [e, e2])
/-- a comprehension by what holds at each turn -/
theorem lc_inv {J : It} {g : TG} {tt : TT} {te : TE} {vs : List Nat} {σ : L2.St} {C : Addr} {H1 : Hp} {Qd : Hp → Prop} (n : Nat) (Pv : Nat → Hp → Prop) (h0 : Pv 0 (upd H1 C (.lst []))) (hd : ∀ H, Pv n H → J.stop n H ∧ Qd H) (hgo : ∀ i H, i < n → Pv i H → J.go i H)
    (hs : ∀ i H x H', i < n → Pv i H → J.yld i H x H' → g x (wipe σ vs) H' fun σ2 H2 => wipe σ2 vs = wipe σ vs ∧ tt σ2 H2 fun b H3 => if b = true then te σ2 H3 fun y H4 => ∃ acc, H4 C = some (.lst acc) ∧ acc.length < sizeLine ∧ Pv (i + 1) (upd H4 C (.lst (acc ++ [y]))) else Pv (i + 1) H3) :
    ∃ W : Nat → Nat → Hp → Prop, (∃ m, W 0 m (upd H1 C (.lst []))) ∧ ∀ i m H, W i m H →
      (J.stop i H ∧ Qd H) ∨ (J.go i H ∧ ∃ Nx : Hp → Prop, (∀ H', Nx H' → ∃ m', m' < m ∧ W (i + 1) m' H') ∧ ∀ x H', J.yld i H x H' → g x (wipe σ vs) H' fun σ2 H2 => wipe σ2 vs = wipe σ vs ∧ tt σ2 H2 fun b H3 =>
        if b = true then te σ2 H3 fun y H4 => ∃ acc, H4 C = some (.lst acc) ∧ acc.length < sizeLine ∧ Nx (upd H4 C (.lst (acc ++ [y]))) else Nx H3) := by
  refine ⟨fun i m H => m = n - i ∧ i ≤ n ∧ Pv i H, ⟨n, by simp, Nat.zero_le _, h0⟩, ?_⟩
  rintro i m H ⟨rfl, hi, p⟩
  rcases Nat.lt_or_ge i n with lt | ge
  · exact .inr ⟨hgo i H lt p, Pv (i + 1), fun H' q => ⟨n - (i + 1), by omega, rfl, lt, q⟩, fun x H' y => hs i H x H' lt p y⟩
  · obtain rfl : i = n := by omega
    exact .inl (hd H p)
end NV
/-! M2a -/
set_option Elab.async false
set_option linter.all false
set_option maxRecDepth 100000
set_option maxHeartbeats 1000000
/-! logs, cut and joined: what needs no costs -/
namespace NV
open PySem PySem.Spec PyProof.Rows L2
theorem DrAt.live {D : Dr} {n : Nat} {H : Hp} (d : DrAt D n H) : Live D.ex H := fun b hb => by
  obtain ⟨_, large, items, left, turn, h1, h2, _⟩ := d
  rcases List.mem_cons.mp hb with z | z
  · rw [z, h1]; exact fun q => nomatch q
  · rw [List.mem_singleton.mp z, h2]; exact fun q => nomatch q
theorem cut_init (xs : List V) : cutV xs none (some (-1)) = xs.take (xs.length - 1) := by
  unfold cutV
  rw [HT.sIx_none]
  show (xs.drop 0).take (((-1 : Int) + (xs.length : Int)).toNat - 0) = _
  rw [List.drop_zero]
  congr 1
  omega
theorem atI_end {xs : List V} {v : V} (h : xs[xs.length - 1]? = some v) : atI xs (-1) = some v := by
  have hl := (List.getElem?_eq_some_iff.mp h).1
  have e : xs = xs.take (xs.length - 1) ++ [v] := by
    have := List.take_append_drop (xs.length - 1) xs
    rw [List.drop_eq_getElem_cons hl] at this
    rw [(List.getElem?_eq_some_iff.mp h).2] at this
    rw [show xs.length - 1 + 1 = xs.length by omega, List.drop_length] at this
    exact this.symm
  rw [e]
  exact atI_last _ v
theorem ixEnd {K : PySem.W.Frag} {ex : List Addr} {H : Hp} {a : Addr} {xs : List V} {ds : List PyData} {d : PyData} {Q : VK} (ha : H a = some (.tup xs)) (hx : RpAll ex H ds xs) (hj : ds[ds.length - 1]? = some d) (q : ∀ v, Rp ex H d v → Q v H) : rIxT K (.ref a) (.int (-1)) H Q := by
  obtain ⟨v, hv, rv⟩ := RpAll.at hx hj
  rw [hx.length] at hv
  exact ⟨a, xs, -1, v, rfl, rfl, .inl (.inl ha), atI_end hv, q v rv⟩
theorem ne_strs {K : PySem.W.Frag} {H : Hp} {a b : Addr} {zs : List Str} {Q : VK} (ha : SqL K H a (zs.map V.str)) (hb : SqL K H b (zs.map V.str)) (oz : ∀ z ∈ zs, PyData.strOk z = true) (q : Q (.bl false) H) : rNeD K (.ref a) (.ref b) H Q := by
  refine ⟨_, _, .lst ha (dpAll_strs zs), .lst hb (dpAll_strs zs), shaped_strs zs oz, shaped_strs zs oz, ?_⟩
  rw [eqv_strs, decide_eq_true rfl]
  exact q
theorem range_get {α : Type} (l : List α) (d : α) : (List.range l.length).map (fun j => l.getD j d) = l := by
  apply List.ext_getElem
  · simp
  · intro j h1 h2
    simp [List.getD_eq_getElem?_getD, List.getElem?_eq_getElem h2]
theorem range_names (es : List Ent) (d : Ent) : ((List.range es.length).filter (fun j => (es.getD j d).isW)).map (fun j => V.str (es.getD j d).id) = ((es.filter Ent.isW).map Ent.id).map V.str := by
  have e := range_get es d
  have h1 : es.filter Ent.isW = ((List.range es.length).filter (fun j => (es.getD j d).isW)).map (fun j => es.getD j d) := by
    conv => lhs; rw [← e]
    rw [List.filter_map]
    rfl
  rw [h1, List.map_map, List.map_map]
  rfl
theorem LogOk.sub {es es' : List Ent} (h : LogOk es) (s : List.Sublist es' es) : LogOk es' := ⟨fun e he => h.ok e (s.subset he), h.nd.sublist (s.map _)⟩
theorem split_at_ {es : List Ent} {k : Nat} {e : Ent} (h : es[k]? = some e) : es = es.take k ++ e :: es.drop (k + 1) := by
  obtain ⟨hk, he⟩ := List.getElem?_eq_some_iff.mp h
  rw [← he, ← List.drop_eq_getElem_cons hk, List.take_append_drop]
theorem split_last {es : List Ent} {e : Ent} (h : es[es.length - 1]? = some e) : es = es.take (es.length - 1) ++ [e] := by
  have hl := (List.getElem?_eq_some_iff.mp h).1
  have := split_at_ h
  rw [show es.length - 1 + 1 = es.length by omega, List.drop_length] at this
  exact this
theorem idB_ok {z : Str} (h : idB z = true) : PyData.strOk z = true := (word_len h).2
theorem Ent.Ok.idOk {e : Ent} (h : e.Ok) : idB e.id = true := by
  cases e with
  | wr id rs ws pr => exact h.1
  | qu id cs => exact h.1
end NV
/-! CkL -/
set_option Elab.async false
set_option linter.all false
set_option maxRecDepth 100000
set_option maxHeartbeats 1000000
/-! the package's check_log -/
namespace NV
open PySem PySem.Spec PyProof.Rows L2
open C8 (pss_cut pe_gc)
abbrev sCheckLog : Stmt := topS 32
theorem scCheckLog : FnScope ["log"] ["log"] (defScope sCheckLog) := ⟨rfl, rfl, rfl, by decide +kernel, rfl, by decide +kernel, by decide +kernel⟩
def spCheck : Sp := fun vs H Q _ => ∃ (v : V) (es : List Ent) (ex : List Addr), vs = [v] ∧ Rp ex H (logD es) v ∧ LogOk es ∧ es.length ≤ 60 ∧ ∀ H', Kp [] H H' → Q .non H'
section
variable {P : Program} {w : World} {K : PySem.W.Frag} {mg : Str → Option Value} {base : Heap}
theorem ok_checklog (DCheckLog : Fn K mg "check_log" sCheckLog ["log"]) (DIsLog : Fn K mg "is_log" sIsLog ["value"]) (GIsLog : FnOk P w K mg base CX0 6 DIsLog.f DIsLog.fd ["value"] (spAskD logD')) : FnOk P w K mg base CX0 7 DCheckLog.f DCheckLog.fd ["log"] spCheck := by
  refine DCheckLog.F.ok scCheckLog (fun vs H Q E h => ?_) (fun cdv A outer s H vs Q E hr h => ?_)
  · obtain ⟨v, es, ex, rfl, _⟩ := h
    rfl
  obtain ⟨v, es, ex, rfl, rv, ok, h60, q⟩ := h
  refine ⟨_, pss_one (ps_if (pt_not (pt_val (pe_fn DIsLog GIsLog hr (pa_cons (pv 0) pa_nil))))
      (pss_one (ps_dead _))
      pss_nil), ?_⟩
  obtain ⟨n1, _, _⟩ := log_nice ok.ok
  refine ⟨_, rfl, v, logD es, ex, rfl, rv, n1, fun H' k => ⟨_, rfl, ?_⟩⟩
  have e : logD' (logD es) = true := by
    show logD' (.tuple (es.map Ent.data)) = true
    rw [log_data ok.ok, decide_eq_true h60, decide_eq_true ok.nd]
    rfl
  rw [e]
  exact iteF (q H' k)
end
end NV
/-! Y2a -/
set_option Elab.async false
set_option linter.all false
set_option maxRecDepth 100000
set_option maxHeartbeats 600000
/-! calls by keywords; equal logs -/
namespace NV
open PySem PySem.Spec PyProof.Rows L2
open C8 (pss_cut pe_gc)
/-- a def of the top, called with keywords -/
structure FnK (K : PySem.W.Frag) (mg : Str → Option Value) (nm : Str) (st : Stmt) (ps : List Str) (n : Nat) (ks : List Str) : Type where
  f : Addr
  fd : FuncData
  F : Fun K nm nm st f fd
  m : mg nm = some (.ref f)
  b : KBn K fd ps n ks (· ++ ·) (· ++ ·)
section
variable {K : PySem.W.Frag} {h : Heap} {mg : Str → Option Value} {nm : Str} {st : Stmt}
theorem fnk_at {ps ks : List Str} {n : Nat} (X : K.In h) (G : h.Ns mainGlobals mg) (a : At K nm st)
    (hb : ∀ (kV doc pm : Value) (an : Option Addr) (cdv ct : Value) (us ws : List Value), us.length = n → ws.length = ks.length → bindArgs (PySem.W.fnOf nm nm (defArgs st) (defBody st) (defScope st) .none kV doc pm an cdv ct) ⟨us, ks.zip ws⟩ = pure (ps.zip (us ++ ws))) : Nonempty (FnK K mg nm st ps n ks) := by
  obtain ⟨f, oc, od, kV, doc, pm, an, cd, ct, sl, a1, l1, c1, k1⟩ := a
  have F := fun_mk (st := st) l1 c1 k1
  have hb2 : KBn K _ ps n ks (· ++ ·) (· ++ ·) := ⟨fun s us ws _ h1 h2 => .of_eq (hb kV doc pm an cd ct us ws h1 h2), fun r1 r2 => r1.append r2⟩
  exact ⟨⟨f, _, F, PySem.W.mg_of X G a1, hb2⟩⟩
end
section
variable {X : Cx} {nm : Str} {st : Stmt} {ps ks : List Str} {sp : Sp} {e : Expr} {es : List Expr} {kws : List Keyword} {t tk : TA} {p pos : Pos} {j k n : Nat}
theorem pe_fk (D : FnK X.K X.mg nm st ps n ks) (G : FnOk X.prog X.w X.K X.mg X.base CX0 j D.f D.fd ps sp) (hr : Room k X.A) (ha : PA X (e :: es) t) (hkw : PK X kws tk)
    (hk : j ≤ k := by decide) (hg : Gl X nm := by rfl) (hall : ((backToKw pos (keywordEach kws X.env)).all (·.1.isSome)) = true := by rfl) (hks : (backToKw pos (keywordEach kws X.env)).filterMap (·.1) = ks := by rfl) (hdb : (nm == ("__debug__" : Str)) = false := by decide)
    (he : starEach (e :: es) X.env = (false, eval e X.env) :: starEach es X.env := by rfl) (hpl : (((backTo pos (starEach (e :: es) X.env)).any (·.1)) || ((backToKw pos (keywordEach kws X.env)).any (·.1.isNone))) = false := by rfl) :
    PE X (.Call (.Name nm p) (e :: es) kws pos) (tCallN n ks.length sp (· ++ ·) (fun _ _ _ => False) t tk) := pe_callN G (hr.mono hk) hg D.m D.F.kp D.b pass0 ha hkw hall hks hdb he hpl
end
/-! ### equal logs -/
mutual
theorem Rp.dp {K : PySem.W.Frag} {ex : List Addr} {H : Hp} : ∀ (d : PyData) (v : V), niceD d = true → d.canLay0 = true → Rp ex H d v → Dp K H v d
  | .none, _, _, _, h => by obtain rfl : _ = V.non := h; exact .non
  | .bool b, _, _, _, h => by obtain rfl : _ = V.bl b := h; exact .bl b
  | .int i, _, _, _, h => by obtain rfl : _ = V.int i := h; exact .int i
  | .str z, _, _, _, h => by obtain rfl : _ = V.str z := h; exact .str z
  | .list ds, v, n, c, h => by
    obtain ⟨a, xs, rfl, _, ha, hx⟩ := h
    exact .lst (.inl (.inl ha)) (RpAll.dp ds xs (by simpa only [niceD] using n) (by simpa only [PyData.canLay0] using c) hx)
  | .tuple ds, v, n, c, h => by
    obtain ⟨a, xs, rfl, _, ha, hx⟩ := h
    exact .tup (.inl (.inl ha)) (RpAll.dp ds xs (by simpa only [niceD] using n) (by simpa only [PyData.canLay0] using c) hx)
  | .dict kvs, v, _, c, h => by simp only [PyData.canLay0] at c; cases c
theorem RpAll.dp {K : PySem.W.Frag} {ex : List Addr} {H : Hp} : ∀ (ds : List PyData) (vs : List V), niceAll ds = true → PyData.canLayAll0 ds = true → RpAll ex H ds vs → DpAll K H vs ds
  | [], vs, _, _, h => by obtain rfl : vs = [] := h; exact .nil
  | d :: ds, vs, n, c, h => by
    obtain ⟨v, ws, rfl, h1, h2⟩ := h
    simp only [niceAll, Bool.and_eq_true] at n
    simp only [PyData.canLayAll0, Bool.and_eq_true] at c
    exact .cons (Rp.dp d v n.1 c.1 h1) (RpAll.dp ds ws n.2 c.2 h2)
end
theorem lay_names : ∀ zs : List Str, (∀ z ∈ zs, PyData.strOk z = true) → PyData.canLayAll0 (zs.map PyData.str) = true
  | [], _ => rfl
  | z :: zs, h => by
    rw [List.map_cons]
    simp only [PyData.canLayAll0, PyData.canLay0, Bool.and_eq_true]
    exact ⟨h z List.mem_cons_self, lay_names zs fun y hy => h y (List.mem_cons_of_mem _ hy)⟩
theorem lay_cells {l : Nat} {cs : List Str} (h : CellsOk l cs) : PyData.canLayAll0 (cs.map PyData.str) = true := lay_names cs fun z hz => (word_len (h.ok z hz)).2
theorem lay_ent {e : Ent} (h : e.Ok) : e.data.canLay0 = true := by
  have wr : PyData.strOk "write" = true := by decide +kernel
  have qu : PyData.strOk "query" = true := by decide +kernel
  cases e with
  | wr id rs ws pr =>
    obtain ⟨h1, h2, h3, _⟩ := h
    unfold Ent.data
    simp only [PyData.canLay0, PyData.canLayAll0, Bool.and_eq_true]
    refine ⟨wr, idB_ok h1, lay_cells h2, lay_cells h3, ?_, trivial⟩
    cases pr <;> rfl
  | qu id cs =>
    obtain ⟨h1, h2⟩ := h
    unfold Ent.data
    simp only [PyData.canLay0, PyData.canLayAll0, Bool.and_eq_true]
    exact ⟨qu, idB_ok h1, lay_cells h2, trivial⟩
theorem lay_log : ∀ {es : List Ent}, (∀ e ∈ es, e.Ok) → PyData.canLayAll0 (es.map Ent.data) = true
  | [], _ => rfl
  | e :: es, h => by
    rw [List.map_cons]
    simp only [PyData.canLayAll0, Bool.and_eq_true]
    exact ⟨lay_ent (h e List.mem_cons_self), lay_log fun u hu => h u (List.mem_cons_of_mem _ hu)⟩
theorem lay_logD {es : List Ent} (h : ∀ e ∈ es, e.Ok) : (logD es).canLay0 = true := by
  unfold logD
  simp only [PyData.canLay0]
  exact lay_log h
theorem shaped_log {es : List Ent} (h : ∀ e ∈ es, e.Ok) : SeqAt.shaped (logD es) = true := by
  have := (log_nice h).2.1
  unfold SeqAt.shaped
  rw [lay_logD h]
  exact decide_eq_true (by show PyData.depth (.tuple (es.map Ent.data)) ≤ 64; omega)
theorem eq_logs {K : PySem.W.Frag} {ex ex' : List Addr} {H : Hp} {v u : V} {es : List Ent} {Q : VK} (ok : ∀ e ∈ es, e.Ok) (hv : Rp ex H (logD es) v) (hu : Rp ex' H (logD es) u) (q : Q (.bl true) H) : rEqD K v u H Q := by
  refine ⟨_, _, Rp.dp _ _ (log_nice ok).1 (lay_logD ok) hv, Rp.dp _ _ (log_nice ok).1 (lay_logD ok) hu, shaped_log ok, shaped_log ok, ?_⟩
  have e := SeqAt.eqv_refl _ (lay_logD ok)
  unfold logD at e
  rw [e]
  exact q
theorem ne_logs {K : PySem.W.Frag} {ex ex' : List Addr} {H : Hp} {v u : V} {es : List Ent} {Q : VK} (ok : ∀ e ∈ es, e.Ok) (hv : Rp ex H (logD es) v) (hu : Rp ex' H (logD es) u) (q : Q (.bl false) H) : rNeD K v u H Q := by
  refine ⟨_, _, Rp.dp _ _ (log_nice ok).1 (lay_logD ok) hv, Rp.dp _ _ (log_nice ok).1 (lay_logD ok) hu, shaped_log ok, shaped_log ok, ?_⟩
  have e := SeqAt.eqv_refl _ (lay_logD ok)
  unfold logD at e
  rw [e]
  exact q
end NV
/-! Z0 -/
set_option Elab.async false
set_option linter.all false
set_option maxRecDepth 100000
set_option maxHeartbeats 1000000
/-! defs that raise, and their calls; the package's check_log for any data -/
namespace NV
open PySem PySem.Spec PyProof.Rows L2
open C8 (pss_cut pe_gc)
theorem small100 {n : Nat} (h : n ≤ 100) : n ≤ sizeLine := Nat.le_trans h (by decide)
/-- a class of errors over ValueError, made without an __init__ of its own -/
structure Err (K : PySem.W.Frag) (mg : Str → Option Value) (nm : Str) : Type where
  C : Addr
  g : mg nm = some (.ref C)
  x : PySem.W.excIn K C [.type "ValueError", .type "Exception", .type "BaseException", .type "object"] "ValueError.__new__" = true
  k : PySem.W.keepIn K (.ref C) = true
  b : PySem.W.subIn K (.ref C) (.type "BaseException") = some true
  t : PySem.W.typeIn K (.ref C) = some (.type "type")
section
variable {X : Cx} {nm : Str} {e : Expr} {te : TE} {p pos : Pos}
theorem pmk_err (D : Err X.K X.mg nm) (he : PE X e te) (hg : Gl X nm := by rfl) (hs : starEach [e] X.env = (false, eval e X.env) :: starEach [] X.env := by rfl) (hdb : (nm == ("__debug__" : Str)) = false := by decide) :
    PMk X (.Call (.Name nm p) [e] [] pos) (fun σ H Q => te σ H fun _ H1 => Q (.ref D.C) none H1) := SkE.pmk_own1 PySem.F.excBase_ValueError D.x D.g D.k (raises_own D.b D.t) hg he hs hdb
end
section
variable {X : Cx} {E : XK}
/-- what the def raises, what it calls raises too -/
theorem pass_all (tk : Takes X fun cls d _ H => E cls d H) : Passes (L2.CX X.prog X.w) X E := fun pins σ H s e s' I c => passAt tk σ pins H s e s' I c
theorem pe_fx {nm : Str} {st : Stmt} {ps : List Str} {sp : Sp} {e : Expr} {es : List Expr} {t : TA} {p pos : Pos} {j k : Nat} (D : Fn X.K X.mg nm st ps) (G : FnOk X.prog X.w X.K X.mg X.base (L2.CX X.prog X.w) j D.f D.fd ps sp) (hr : Room k X.A) (tk : Takes X fun cls d _ H => E cls d H) (ha : PA X (e :: es) t)
    (hk : j ≤ k := by decide) (hg : Gl X nm := by rfl) (hdb : (nm == ("__debug__" : Str)) = false := by decide) (he : starEach (e :: es) X.env = (false, eval e X.env) :: starEach es X.env := by rfl) (hpl : (backTo pos (starEach es X.env)).any (·.1) = false := by rfl) :
    PE X (.Call (.Name nm p) (e :: es) [] pos) (tCall sp [] E t) := pe_call G (hr.mono hk) hg D.m D.F.kp D.b .nil (pass_all tk) ha hdb he hpl
theorem pe_fkx {nm : Str} {st : Stmt} {ps ks : List Str} {sp : Sp} {e : Expr} {es : List Expr} {kws : List Keyword} {t tk : TA} {p pos : Pos} {j k n : Nat} (D : FnK X.K X.mg nm st ps n ks) (G : FnOk X.prog X.w X.K X.mg X.base (L2.CX X.prog X.w) j D.f D.fd ps sp) (hr : Room k X.A) (tk' : Takes X fun cls d _ H => E cls d H) (ha : PA X (e :: es) t) (hkw : PK X kws tk)
    (hk : j ≤ k := by decide) (hg : Gl X nm := by rfl) (hall : ((backToKw pos (keywordEach kws X.env)).all (·.1.isSome)) = true := by rfl) (hks : (backToKw pos (keywordEach kws X.env)).filterMap (·.1) = ks := by rfl) (hdb : (nm == ("__debug__" : Str)) = false := by decide)
    (he : starEach (e :: es) X.env = (false, eval e X.env) :: starEach es X.env := by rfl) (hpl : (((backTo pos (starEach (e :: es) X.env)).any (·.1)) || ((backToKw pos (keywordEach kws X.env)).any (·.1.isNone))) = false := by rfl) :
    PE X (.Call (.Name nm p) (e :: es) kws pos) (tCallN n ks.length sp (· ++ ·) E t tk) := pe_callN G (hr.mono hk) hg D.m D.F.kp D.b (pass_all tk') ha hkw hall hks hdb he hpl
end
/-- nothing, or an error of the class C -/
def spMay (f : PyData → Bool) (C : Addr) : Sp := fun vs H Q E => ∃ (v : V) (d : PyData) (ex : List Addr), vs = [v] ∧ Rp ex H d v ∧ niceD d = true ∧ (f d = true → ∀ H', Kp [] H H' → Q .non H') ∧ (f d = false → ∀ H', Kp [] H H' → E (.ref C) none H')
section
variable {P : Program} {w : World} {K : PySem.W.Frag} {mg : Str → Option Value} {base : Heap}
theorem ok_checklogX (DCheckLog : Fn K mg "check_log" sCheckLog ["log"]) (DIsLog : Fn K mg "is_log" sIsLog ["value"]) (XL : Err K mg "InvalidLog") (g1 : ∃ u, mg "MOST_ENTRIES" = some u ∧ L2.RelV (.int 60) u)
    (GIsLog : FnOk P w K mg base CX0 6 DIsLog.f DIsLog.fd ["value"] (spAskD logD')) : FnOk P w K mg base (L2.CX P w) 7 DCheckLog.f DCheckLog.fd ["log"] (spMay logD' XL.C) := by
  refine DCheckLog.F.okX scCheckLog (fun vs H Q E h => ?_) (fun cdv A outer s H vs Q E hr h => ?_)
  · obtain ⟨v, d, ex, rfl, _⟩ := h
    rfl
  obtain ⟨v, d, ex, rfl, rv, nd, yes, no⟩ := h
  refine ⟨_, pss_one (ps_if (pt_not (pt_val (pe_fn DIsLog GIsLog hr (pa_cons (pv 0) pa_nil))))
      (pss_one (ps_raise rfl (takes_of rfl rfl rfl rfl) (pmk_err XL (pe_joined (.cons pe_str (.cons (pe_fmt (pe_gc (v := .int 60) rfl g1)) (.cons pe_str .nil)))))))
      pss_nil), ?_⟩
  refine ⟨_, rfl, v, d, ex, rfl, rv, nd, fun H' k => ⟨_, rfl, ?_⟩⟩
  cases hd : logD' d with
  | true => exact iteF (yes hd H' k)
  | false =>
    refine iteT ⟨_, rfl, ?_, .inr ⟨60, rfl, ?_, _, rfl, ?_, _, rfl, ?_, no hd H' k⟩⟩
    · exact small100 (by decide +kernel)
    · decide +kernel
    · exact small100 (by decide +kernel)
    · exact small100 (by decide +kernel)
end
end NV
/-! CallX -/
set_option Elab.async false
set_option linter.all false
set_option maxRecDepth 100000
set_option maxHeartbeats 600000
/-! a def of the top called in several ways, where it may raise -/
namespace NV
open PySem PySem.Spec PyProof.Rows L2
section
variable {K : PySem.W.Frag} {h : Heap} {mg : Str → Option Value} {nm : Str} {st : Stmt} {q : Str} {φ : Value → Prop}
/-- how a def is called by keywords without its keyword-only parameter q -/
theorem kwl_at {ks ps : List Str} {n : Nat} (X : K.In h) (G : h.Ns mainGlobals mg) (a : AtQ K nm st q φ) (D : FnF K mg nm st)
    (hb : ∀ (Dk : Addr) (doc pm : Value) (an : Option Addr) (cdv ct : Value) (us mv ws : List Value), us.length = n → mv.length = 1 → ws.length = ks.length → KwChain Dk ([q].zip mv) (bindArgs (PySem.W.fnOf nm nm (defArgs st) (defBody st) (defScope st) .none (.ref Dk) doc pm an cdv ct) ⟨us, ks.zip ws⟩) (ps.zip (us ++ ws ++ mv))) :
    ∃ u, φ u ∧ ∀ v, RelV v u → ∃ g, KBn K D.fd ps n ks g (fun vs zs => vs ++ zs ++ [v]) := by
  obtain ⟨f, Dk, oc, od, doc, pm, an, cd, ct, sl, u, a1, l1, c1, k1, d1, p1⟩ := a
  obtain ⟨f', fd', F', m'⟩ := D
  have e1 := PySem.W.mg_of X G a1
  rw [m'] at e1
  cases e1
  obtain ⟨oc', od', kV', doc', pm', an', cdv', ct', osl', e2, lk', hcd'⟩ := F'.ex
  rw [l1] at lk'
  have e3 := congrArg Obj.data (Option.some.inj lk')
  have e4 : PySem.W.fnOf nm nm (defArgs st) (defBody st) (defScope st) .none (.ref Dk) doc pm an cd ct = fd' := by
    injection e3
  refine ⟨u, p1, fun v rv => ?_⟩
  have F : FunD K nm nm (defArgs st) (defBody st) (defScope st) [] [(q, v)] f fd' := by
    rw [← e4]
    exact ⟨⟨oc, od, .none, .ref Dk, doc, pm, an, cd, ct, sl, rfl, l1, c1, .inl ⟨rfl, rfl⟩, .inr ⟨Dk, rfl, fun p hp => ⟨u, by rw [List.mem_singleton.mp hp]; exact ⟨d1, rv⟩⟩⟩⟩, k1⟩
  obtain ⟨mv, B⟩ := F.kbinds0 (ps := ps) n ks [(q, v)] (fun us mv ws => us ++ ws ++ mv) (by simp) (fun _ hq => hq) (fun r1 r2 r3 => (r1.append r3).append r2) fun D doc pm an cdv ct us mv ws h1 h2 h3 => hb D doc pm an cdv ct us mv ws h1 h2 h3
  exact ⟨_, B⟩
end
section
variable {X : Cx} {E : XK} {nm : Str} {st : Stmt} {ps ks : List Str} {sp : Sp} {e : Expr} {es : List Expr} {kws : List Keyword} {t tk : TA} {p pos : Pos} {j k n : Nat} {g : List Value → List Value → List Value} {gV : List V → List V → List V}
theorem pe_qx (D : FnF X.K X.mg nm st) (B : KBn X.K D.fd ps n ks g gV) (G : FnOk X.prog X.w X.K X.mg X.base (L2.CX X.prog X.w) j D.f D.fd ps sp) (hr : Room k X.A) (tk' : Takes X fun cls d _ H => E cls d H) (ha : PA X (e :: es) t) (hkw : PK X kws tk)
    (hk : j ≤ k := by decide) (hg : Gl X nm := by rfl) (hall : ((backToKw pos (keywordEach kws X.env)).all (·.1.isSome)) = true := by rfl) (hks : (backToKw pos (keywordEach kws X.env)).filterMap (·.1) = ks := by rfl) (hdb : (nm == ("__debug__" : Str)) = false := by decide)
    (he : starEach (e :: es) X.env = (false, eval e X.env) :: starEach es X.env := by rfl) (hpl : (((backTo pos (starEach (e :: es) X.env)).any (·.1)) || ((backToKw pos (keywordEach kws X.env)).any (·.1.isNone))) = false := by rfl) :
    PE X (.Call (.Name nm p) (e :: es) kws pos) (tCallN n ks.length sp gV E t tk) := pe_callN G (hr.mono hk) hg D.m D.F.kp B (pass_all tk') ha hkw hall hks hdb he hpl
def tCallWX (m : Nat) (sp : Sp) (gV : List V → List V → List V) (E : XK) (tk : TA) : TE := fun σ H Q => tk σ H fun zs H2 => zs.length = m ∧ sp (gV [] zs) H2 Q E
theorem pe_q0x (D : FnF X.K X.mg nm st) (B : KBn X.K D.fd ps 0 ks g gV) (G : FnOk X.prog X.w X.K X.mg X.base (L2.CX X.prog X.w) j D.f D.fd ps sp) (hr : Room k X.A) (tk' : Takes X fun cls d _ H => E cls d H) (hkw : PK X kws tk)
    (hk : j ≤ k := by decide) (hg : Gl X nm := by rfl) (hall : ((backToKw pos (keywordEach kws X.env)).all (·.1.isSome)) = true := by rfl) (hks : (backToKw pos (keywordEach kws X.env)).filterMap (·.1) = ks := by rfl) (hdb : (nm == ("__debug__" : Str)) = false := by decide)
    (hpl : (((backTo pos (starEach [] X.env)).any (·.1)) || ((backToKw pos (keywordEach kws X.env)).any (·.1.isNone))) = false := by rfl) :
    PE X (.Call (.Name nm p) [] kws pos) (tCallWX ks.length sp gV E tk) := by
  refine ⟨fun pins s σ H Q I h => ?_⟩
  refine wpAny_Call_Name_kw (ld_glob I hg D.m ?_ hdb)
  refine PySem.W.callWith_KW0 (h₀ := X.base) I.ok.mod.kin D.F.kp hall (thn (hkw.run pos pins s σ H _ I h) fun ws s2 ⟨zs, H2, I2, rz, l2, q2⟩ => ⟨I2.kIn, ?_⟩) hpl
  rw [hks]
  exact run_fnN (vs := []) G (hr.mono hk) B (pass_all tk') I2 .nil rz rfl l2 q2
/-- f(k = v, ..), a def that may raise, asked rightly -/
theorem pe_q0L (D : FnF X.K X.mg nm st) (B : KBn X.K D.fd ps 0 ks g gV) (G : FnOk X.prog X.w X.K X.mg X.base (L2.CX X.prog X.w) j D.f D.fd ps sp) (hr : Room k X.A) (hkw : PK X kws tk)
    (hk : j ≤ k := by decide) (hg : Gl X nm := by rfl) (hall : ((backToKw pos (keywordEach kws X.env)).all (·.1.isSome)) = true := by rfl) (hks : (backToKw pos (keywordEach kws X.env)).filterMap (·.1) = ks := by rfl) (hdb : (nm == ("__debug__" : Str)) = false := by decide)
    (hpl : (((backTo pos (starEach [] X.env)).any (·.1)) || ((backToKw pos (keywordEach kws X.env)).any (·.1.isNone))) = false := by rfl) :
    PE X (.Call (.Name nm p) [] kws pos) (tCallWX ks.length sp gV L2.E0 tk) := by
  refine ⟨fun pins s σ H Q I h => ?_⟩
  refine wpAny_Call_Name_kw (ld_glob I hg D.m ?_ hdb)
  refine PySem.W.callWith_KW0 (h₀ := X.base) I.ok.mod.kin D.F.kp hall (thn (hkw.run pos pins s σ H _ I h) fun ws s2 ⟨zs, H2, I2, rz, l2, q2⟩ => ⟨I2.kIn, ?_⟩) hpl
  rw [hks]
  exact run_fnN (vs := []) G (hr.mono hk) B passL I2 .nil rz rfl l2 q2
theorem pe_qnx (D : FnF X.K X.mg nm st) (B : Binds X.K D.fd ps []) (G : FnOk X.prog X.w X.K X.mg X.base (L2.CX X.prog X.w) j D.f D.fd ps sp) (hr : Room k X.A) (tk' : Takes X fun cls d _ H => E cls d H) (ha : PA X (e :: es) t)
    (hk : j ≤ k := by decide) (hg : Gl X nm := by rfl) (hdb : (nm == ("__debug__" : Str)) = false := by decide) (he : starEach (e :: es) X.env = (false, eval e X.env) :: starEach es X.env := by rfl) (hpl : (backTo pos (starEach es X.env)).any (·.1) = false := by rfl) :
    PE X (.Call (.Name nm p) (e :: es) [] pos) (tCall sp [] E t) := pe_call G (hr.mono hk) hg D.m D.F.kp B .nil (pass_all tk') ha hdb he hpl
theorem pe_qlx {dvs : List V} (D : FnF X.K X.mg nm st) (B : Lack X.K D.fd ps dvs) (G : FnOk X.prog X.w X.K X.mg X.base (L2.CX X.prog X.w) j D.f D.fd ps sp) (hr : Room k X.A) (tk' : Takes X fun cls d _ H => E cls d H) (ha : PA X (e :: es) t)
    (hk : j ≤ k := by decide) (hg : Gl X nm := by rfl) (hdb : (nm == ("__debug__" : Str)) = false := by decide) (he : starEach (e :: es) X.env = (false, eval e X.env) :: starEach es X.env := by rfl) (hpl : (backTo pos (starEach es X.env)).any (·.1) = false := by rfl) :
    PE X (.Call (.Name nm p) (e :: es) [] pos) (tCall sp dvs E t) := by
  obtain ⟨ds, vs, b⟩ := B.ex
  exact pe_call G (hr.mono hk) hg D.m D.F.kp b vs (pass_all tk') ha hdb he hpl
end
end NV
/-! KeepEx -/
set_option Elab.async false
set_option linter.all false
set_option maxRecDepth 100000
set_option maxHeartbeats 1000000
/-! try .. except E as e: .. with what follows it: the caught object stays pinned -/
namespace NV
open PySem PySem.Spec PyProof.Rows
open L2
/-- statements that are never reached -/
theorem pss_dead {X : Cx} (l : List Stmt) : PSs X l (fun _ _ _ => False) := ⟨fun _ _ _ _ _ _ h => h.elim⟩
section
variable {X : Cx} {pins pn' : List (Addr × Obj)} {σ : L2.St} {H : Hp} {s : Shared}
theorem inv_unkeep {q : Addr × Obj} {xe : Value → Shared → Prop} (ok : X.Ok) (I : Inv (X.tr (q :: (X.pn ++ pins)) xe) pn' σ H s) : Inv X pins σ H s where
  ok := ok
  os := I.os
  bare := I.bare
  base := I.base
  loc := I.loc
  cell := I.cell
  free := I.free
  freeC := I.freeC
  pin := fun p hp => by
    refine I.pin p ?_
    show p ∈ (q :: (X.pn ++ pins)) ++ pn'
    exact List.mem_append_left pn' (List.mem_cons_of_mem q hp)
  hok := I.hok
  len := I.len
theorem inv_keep {a : Addr} {q : Addr × Obj} (ok : X.Ok) (I : Inv (X.suite a (q :: (X.pn ++ pins))) pn' σ H s) : Inv (X.tr (q :: (X.pn ++ pins)) X.xe) [] σ H s where
  ok := ok.toTry _ _
  os := I.os
  bare := I.bare
  base := I.base
  loc := I.loc
  cell := I.cell
  free := I.free
  freeC := I.freeC
  pin := fun p hp => by
    refine I.pin p ?_
    show p ∈ (q :: (X.pn ++ pins)) ++ pn'
    rw [List.append_nil] at hp
    exact List.mem_append_left pn' hp
  hok := I.hok
  len := I.len
/-- behind the statement: as usual, or with the caught object pinned -/
def KeepP (X : Cx) (pins : List (Addr × Obj)) (D : Ends) (M : Addr → Value → Option Addr → L2.St → Hp → Prop) (f : Flow) (s : Shared) : Prop :=
  SP X pins D f s ∨ (f = .next ∧ ∃ (a : Addr) (oe : Obj) (cls : Value) (d : Option Addr) (σ' : L2.St) (H' : Hp), Zc cls d oe ∧ (∃ vs, oe.data = .fields vs) ∧ Inv (X.tr ((a, oe) :: (X.pn ++ pins)) X.xe) [] σ' H' s ∧ M a cls d σ' H')
/-- what the clause wishes of an exception of the body -/
def wKeep (K : PySem.W.Frag) (c : Value) (i : Nat) (ts : Addr → Value → Option Addr → TS) (Wout : WX) (M : Addr → Value → Option Addr → L2.St → Hp → Prop) : WX := fun cls d σ H =>
  ∃ b, PySem.W.exmOne K cls c = some b ∧ (b = false → Wout cls d σ H) ∧
    (b = true → ∀ a, H a = none → ts a cls d { nx := fun σ' H' => M a cls d (σ'.set i none) H', rt := fun _ _ => False, bk := fun _ _ => False, ct := fun _ _ => False } (σ.set i (some (.ref a))) H)
end
section
variable {X : Cx} {x n : Str} {c : Value} {i : Nat} {body suite : List Stmt} {b₀ : Stmt} {np pos pos' : Pos} {tb : WX → TS} {ts : Addr → Value → Option Addr → TS} {Wout : WX}
theorem keep_try (hs : X.stack = X.env :: X.outer) (hf : X.env.frame = some X.env.locals) (hN : X.N.Nodup) (hi : X.N[i]? = some n) (hln : X.env.kindOf n = some .local) (hc : L2.Names X x c)
    (tk : Takes X Wout) (hb : ∀ (W : WX) (pn : List (Addr × Obj)) (xe : Value → Shared → Prop), Takes (X.tr pn xe) W → PassesOwn (model X.prog X.w) X.A X.env xe → PSs (X.tr pn xe) body (tb W))
    (hsu : ∀ (a : Addr) (oe : Obj) (cls : Value) (d : Option Addr) (pn : List (Addr × Obj)), Zc cls d oe → (∃ vs, oe.data = .fields vs) → PSs (X.suite a ((a, oe) :: pn)) (b₀ :: suite) (ts a cls d))
    {pins : List (Addr × Obj)} {σ : L2.St} {H : Hp} {s : Shared} (D : Ends) (M : Addr → Value → Option Addr → L2.St → Hp → Prop) (I : Inv X pins σ H s) (h : tb (wKeep X.K c i ts Wout M) D σ H) :
    wpAny (model X.prog X.w) X.A (exec (.Try body [.ExceptHandler (some (.Name x np)) (some n) (b₀ :: suite) pos'] [] [] pos) X.env) (KeepP X pins D M) X.xe s := by
  have ok := I.ok
  have hfr : X.A.frames = some (X.env :: X.outer) := by
    rw [ok.frames, hs]
  have hloc : Loc X.env.scope n := Or.inl hln
  refine wpAny_Try_except ?_
  let xe' : Value → Shared → Prop := fun e s₁ => wpAny (model X.prog X.w) X.A (noteFrame e X.env)
    (fun _ s₂ => wpAny (model X.prog X.w) X.A (setFlight e none)
      (fun _ s₃ => wpAny (model X.prog X.w) X.A
        (handleBy e X.env [.ExceptHandler (some (.Name x np)) (some n) (b₀ :: suite) pos'])
        (KeepP X pins D M) X.xe s₃) X.xe s₂) X.xe s₁
  have takes : Takes (X.tr (X.pn ++ pins) xe') (wKeep X.K c i ts Wout M) := by
    rintro _ t ⟨a, G, sI, ps', τ, Ha, cls, d, rfl, Ia, ng, us, sk, na, ho, hg, m, hm, hno, hyes⟩
    have Ib : Inv X pins τ Ha sI := Ia.ofTry ok
    rw [show (X.tr (X.pn ++ pins) xe').stack = X.env :: X.outer from hs] at sk
    refine Sky.land Zc.steady hfr hf sk ?_
    intro g1 fl1 u1
    have I1 : Inv X pins τ Ha { t with heap := g1 } := Ib.landed ng fl1.1 (us.trans u1) ho hg
    obtain ⟨o1, vs1, he1, hz1, hd1⟩ := fl1.there
    have out : a ∉ frs (X.env :: X.outer) := by
      intro y
      obtain ⟨_, o2, e2, no⟩ := fl1.2.2.1.mem y
      rw [he1] at e2
      obtain rfl := Option.some.inj e2
      exact no _ hd1
    have aL : a ≠ X.env.locals := by
      intro y
      refine out (List.mem_filterMap.mpr ⟨X.env, ?_, ?_⟩)
      · simp
      · rw [hf, y]
    have aF : a ∉ X.fs := by
      intro y
      obtain ⟨v, hv, q⟩ := List.mem_filterMap.mp y
      refine out (List.mem_filterMap.mpr ⟨v, ?_, q⟩)
      simp [hv]
    have S1 := I1.suite he1 hd1 na aL aF
    refine wpAny_handleBy_cons ?here ?other
    case other =>
      intro y
      cases y
    refine codeAny_handlers_test ?_
    have ty1 : PySem.W.Looks (model X.prog X.w) g1 (typeOf (.ref a)) cls := by
      intro A1 Q1 E1 s1 k1 q1
      refine wpAny_typeOf_ref (k1 _ _ he1) ?_
      rw [hz1.1]
      exact q1
    have which := PySem.W.exm_one (M := model X.prog X.w) I1.kIn ty1 hm
    have name : ∀ {Q : Value → Shared → Prop} {E : Value → Shared → Prop}, Q c { t with heap := g1 } →
        wpAny (model X.prog X.w) (X.A.mark (some (.ref a))) (eval (.Name x np) X.env) Q E { t with heap := g1 } := by
      intro Q E q
      obtain ⟨c1, c2, c3⟩ := hc
      rcases c3 with c3 | ⟨c3, c4, c5⟩
      · exact ld_glob (X := X.suite a ((a, o1) :: (X.pn ++ pins))) S1 c1 c3 q c2
      · exact ld_blt (X := X.suite a ((a, o1) :: (X.pn ++ pins))) S1 c1 c3 c4 q c5 c2
    refine name (which.here ?_)
    cases m with
    | true =>
      refine codeAny_handlers_suite_as ?_
      refine HandSPX.lands_againZ fl1 ?_
      intro g2 fl2 u2
      have I2 : Inv X pins τ Ha { t with heap := g2 } := Ib.landed ng fl2.1 (us.trans (u1.trans u2)) ho hg
      obtain ⟨o2, vs2, he2, hz2, hd2⟩ := fl2.there
      have S2 := I2.suite he2 hd2 na aL aF
      refine store_ok (X := X.suite a ((a, o2) :: (X.pn ++ pins))) (v := .ref a) S2 hN hi hloc rfl ?_ (.inr hln)
      intro s5 S5
      have go := (hsu a o2 cls d (X.pn ++ pins) hz2 ⟨_, hd2⟩).run [] s5 _ Ha _ S5 (hyes rfl a na)
      refine wpAny_mono go ?_ fun _ _ y => y.elim
      intro f s6 sp6
      cases f with
      | next =>
        obtain ⟨τ6, H6, S6, q6⟩ := sp6
        refine gone_ok (X := X.tr ((a, o2) :: (X.pn ++ pins)) X.xe) (inv_keep ok S6) hN hi hln ?_
        intro s7 I7
        exact .inr ⟨rfl, a, o2, cls, d, _, _, hz2, ⟨_, hd2⟩, I7, q6⟩
      | brk => exact sp6.elim fun _ y => y.elim fun _ y => y.2.elim
      | cont => exact sp6.elim fun _ y => y.elim fun _ y => y.2.elim
      | ret u => exact sp6.elim fun _ y => y.elim fun _ y => y.elim fun _ y => y.2.2.elim
    | false =>
      have w1 := hno rfl
      refine wpAny_handleBy_nil ?_
      obtain ⟨_, _, _, o2, vs2, tb2, _, _, he2, hz2, hd2, hn2, _⟩ := id fl1
      unfold PySem.passOn
      refine wpAny_bind (wpAny_field he2 hd2 hn2 ?_)
      have notN : ¬ ((Value.ref tb2 == Value.none) = true) := by simp
      rw [if_neg notN]
      have off : wpAny (model X.prog X.w) X.A (setFlight (.ref a) X.env.frame)
          (fun _ s4 => wpAny (model X.prog X.w) X.A (throw (.ref a) : Sem Flow) (KeepP X pins D M) X.xe s4)
          X.xe { t with heap := g1 } := by
        rw [hf]
        refine HandSPX.setFlight_upZ fl1 ?_
        intro g2 held u2
        refine wpAny_throw (tk _ _ ?_)
        refine ⟨a, G, sI, pins, τ, Ha, cls, d, rfl, Ib, ng, us.trans (u1.trans u2), ?_, na, ho, hg, w1⟩
        rw [hs]
        exact .inr (.inr held)
      first
        | exact wpAny_bind off
        | exact wpAny_bind (wpAny_pure (wpAny_bind off))
  have run := (hb (wKeep X.K c i ts Wout M) (X.pn ++ pins) xe' takes PassesOwn.looking).run [] s σ H D (I.toTry _) h
  refine wpAny_mono run ?_ ?_
  · intro f s1 hsp
    cases f with
    | next =>
      obtain ⟨σ', H', J', q⟩ := hsp
      exact wpAny_execs_nil (.inl ⟨σ', H', J'.ofTry ok, q⟩)
    | brk =>
      obtain ⟨σ', H', J', q⟩ := hsp
      exact .inl ⟨σ', H', J'.ofTry ok, q⟩
    | cont =>
      obtain ⟨σ', H', J', q⟩ := hsp
      exact .inl ⟨σ', H', J'.ofTry ok, q⟩
    | ret u =>
      obtain ⟨v, σ', H', J', r, q⟩ := hsp
      exact .inl ⟨v, σ', H', J'.ofTry ok, r, q⟩
  · exact fun e s1 he => he
/-- the statement, and all that follows it in the same block -/
theorem pss_keep {rest : List Stmt} {tr : TS} {te : Addr → Value → Option Addr → TS} (hs : X.stack = X.env :: X.outer) (hf : X.env.frame = some X.env.locals) (hN : X.N.Nodup) (hi : X.N[i]? = some n) (hln : X.env.kindOf n = some .local) (hc : L2.Names X x c)
    (tk : Takes X Wout) (hb : ∀ (W : WX) (pn : List (Addr × Obj)) (xe : Value → Shared → Prop), Takes (X.tr pn xe) W → PassesOwn (model X.prog X.w) X.A X.env xe → PSs (X.tr pn xe) body (tb W))
    (hsu : ∀ (a : Addr) (oe : Obj) (cls : Value) (d : Option Addr) (pn : List (Addr × Obj)), Zc cls d oe → (∃ vs, oe.data = .fields vs) → PSs (X.suite a ((a, oe) :: pn)) (b₀ :: suite) (ts a cls d))
    (hr : PSs X rest tr) (hk : ∀ (a : Addr) (oe : Obj) (cls : Value) (d : Option Addr) (pn : List (Addr × Obj)), Zc cls d oe → (∃ vs, oe.data = .fields vs) → PSs (X.tr ((a, oe) :: pn) X.xe) rest (te a cls d)) :
    PSs X (.Try body [.ExceptHandler (some (.Name x np)) (some n) (b₀ :: suite) pos'] [] [] pos :: rest) (fun D σ H => tb (wKeep X.K c i ts Wout fun a cls d σ' H' => te a cls d D σ' H') { D with nx := tr D } σ H) := by
  refine ⟨fun pins s σ H D I h => ?_⟩
  have ok := I.ok
  refine wpAny_execs_cons (thn (keep_try hs hf hN hi hln hc tk hb hsu { D with nx := tr D } _ I h) ?_)
  intro f s1 q
  rcases q with q | ⟨rfl, a, oe, cls, d, σ', H', hz, hd, I', m⟩
  · cases f with
    | next =>
      obtain ⟨σ', H', I', q⟩ := q
      exact hr.run pins s1 σ' H' D I' q
    | brk => exact q
    | cont => exact q
    | ret u => exact q
  · have go := (hk a oe cls d (X.pn ++ pins) hz hd).run [] s1 σ' H' D I' m
    refine thn go ?_
    intro f s2 y
    cases f with
    | next => exact y.imp fun _ z => z.imp fun _ w => ⟨inv_unkeep ok w.1, w.2⟩
    | brk => exact y.imp fun _ z => z.imp fun _ w => ⟨inv_unkeep ok w.1, w.2⟩
    | cont => exact y.imp fun _ z => z.imp fun _ w => ⟨inv_unkeep ok w.1, w.2⟩
    | ret u => exact y.imp fun _ z => z.imp fun _ z => z.imp fun _ w => ⟨inv_unkeep ok w.1, w.2⟩
end
end NV
/-! IsEx -/
set_option Elab.async false
set_option linter.all false
set_option maxRecDepth 100000
set_option maxHeartbeats 4000000
/-! isinstance and attributes of a caught error with a dict of its own, where it is pinned -/
namespace NV
open PySem PySem.Spec PySem.W PySem.Calls PyProof.Rows
section
variable {prog : Program} {w : World} {A : Around} {E : Value → Shared → Prop} {s : Shared} {K : Frag} {x D : Addr} {ox : Obj} {od : Option Obj}
/-- __class__ is a data descriptor: the instance's own dict is not asked -/
theorem find_class (C : L2.ExcC K D) : findObj K D od "__class__" = some (.bind (.builtin "getset_descriptor.__get__") (.builtin "object.__class__")) := by
  obtain ⟨cd, hcd, _⟩ := any_some C.hd
  unfold findObj
  rw [hcd]
  rw [Option.bind_some, C.ha]
  rw [Option.bind_some]
  simp [C.hn, C.ht]
theorem class_of {Q : Option Value → Shared → Prop} (C : L2.ExcC K D) (X : K.In s.heap) (I : PySem.W.InstAt s.heap x ox D od) (h : Q (some (.ref D)) { s with toks := s.toks + 1 }) :
    wpAny (model prog w) A (getAttr? (.ref x) "__class__") Q E s := by
  have hf := find_class (od := od) C
  obtain ⟨hp, gn, dn, tk, os⟩ := s
  have ty := I.type (M := model prog w)
  have l1 := looks_findIn (M := model prog w) X C.hg
  have l2 := looks_findIn (M := model prog w) X C.hk
  have l3 := looks_find (M := model prog w) X I hf
  have isE : Looks (model prog w) hp (isInstance (.ref x) (.type "BaseException")) true := by
    exact ty.andThen (looks_subIn X C.hs)
  have n0 : (false && onTheHeap (.builtin "BaseException.__getattribute__" : Value)) = false := rfl
  have n2 : ((.builtin "BaseException.__getattribute__" : Value) == .builtin "object.__getattribute__") = false := by
    decide +kernel
  have n1 : (onTheHeap (.ref D : Value) && (.builtin "BaseException.__getattribute__" : Value) == .builtin "object.__getattribute__") = false := by
    rw [n2]
    rfl
  unfold getAttr? getAttrBy? getAttrBy
  refine wpAny_bind (wpAny_mkText ?_)
  refine wpAny_bind (wpAny_attempt ?_)
  refine wpAny_holding (wpAny_bind ?_)
  refine ty.at (wpAny_bind (l1.at ?_))
  show wpAny _ _ (if (onTheHeap (.ref D : Value) && (.builtin "BaseException.__getattribute__" : Value) == .builtin "object.__getattribute__") = true
    then _ else _) _ _ _
  rw [n1]
  rw [if_neg Bool.false_ne_true]
  unfold getAttrByItsOwn hookBefore
  refine wpAny_bind ?_
  have on : onTheHeap (.ref D : Value) = true := rfl
  rw [if_pos on]
  refine l2.at ?_
  refine wpAny_bind (wpAny_attempt ?_)
  refine wpAny_holding ?_
  unfold callGetattribute
  rw [n0]
  rw [if_neg Bool.false_ne_true]
  unfold boundAndCalled
  rw [PySem.F.excAttr_ValueError.ga.bind (.ref x)]
  refine wpAny_bind (wpAny_pure ?_)
  show wpAny _ _ (call (.builtin "BaseException.__getattribute__")
    [.ref x, .str "__class__" tk]) _ _ _
  refine wpAny_call ?_
  refine codeAny_call_builtin PySem.F.excAttr_ValueError.ga.plain
    PySem.F.entry_bexc_ga ?_
  refine @check_slot (model prog w) _ _ ⟨hp, gn, dn, tk + 1, os⟩
    "BaseException.__getattribute__" "BaseException"
    "__getattribute__" (.ref x) [.str "__class__" tk] [] _
    (by decide +kernel) (by decide +kernel) isE
    (PySem.F.args_bexc_ga (.ref x) (.str "__class__" tk)) ?_
  unfold Builtin.«object.__getattribute__»
  refine wpAny_bind ?_
  refine wpAny_of_eq (a := ((Value.ref x : Value), [Value.str "__class__" tk])) ?e1 ?_
  case e1 =>
    first
      | rfl
      | (simp only [slotArgs]; rfl)
  refine wpAny_bind (wpAny_pure ?_)
  refine wpAny_bind (ty.at ?_)
  refine wpAny_bind (l3.at ?_)
  show wpAny _ _ (holding [Value.builtin "object.__class__"]
    (call (.builtin "getset_descriptor.__get__") [.builtin "object.__class__", .ref x, .ref D]) >>= ret) _ _ _
  refine wpAny_bind (wpAny_holding ?_)
  refine wpAny_call (class_get (s := ⟨hp, gn, dn, tk + 1, os⟩) (ox := ox) (od := od) X I C.hm ?_)
  refine wpAny_pure ?_
  show wpAny _ _ (handedOut (.ref D)) _ _ _
  rw [handedOut_of (v := .ref D) rfl]
  first
    | exact wpAny_pure (wpAny_pure h)
    | exact wpAny_pure h
    | exact wpAny_pure (wpAny_bind (wpAny_pure (wpAny_pure h)))
theorem kit_pinned (C : L2.ExcC K D) : KitX K (.ref x) (.ref D) (fun h => PySem.W.InstAt h x ox D od) where
  ty := fun _ _ _ I => I.type
  it := by
    intro M h X _
    obtain ⟨cd, hcd, _⟩ := any_some C.hd
    unfold clsIn at hcd
    split at hcd
    case h_2 => cases hcd
    rename_i ho
    intro A1 Q1 E1 s1 k1 q1
    unfold isType loadHead
    have there := k1 _ _ (X _ _ ho)
    exact wpAny_bind (wpAny_loadPart there (wpAny_pure q1))
  ne := fun h tp dd its n sl X htp => (handS_kitx_exc (x := x) (ox := ox) C.hg C.hk C.hs C.hd C.ha C.hn C.ht C.hm).ne h tp dd its n sl X htp
  ca := fun X I k => class_of C X I k
end
section
open L2
/-- isinstance(e, c), e pinned -/
def rIsP (K : PySem.W.Frag) (a : Addr) (cls : Value) (d : Option Addr) : List V → Hp → VK → Prop := fun xs H Q => ∃ (c : V) (cv : Value) (D : Addr) (b : Bool), xs = [.ref a, c] ∧ cls = .ref D ∧ (∀ u, RelV c u → u = cv) ∧ L2.ExcC K D ∧ (∀ dd, d = some dd → ∃ fs, H dd = some (.xd fs)) ∧
  PySem.W.kitOne K (.ref D) cv = some b ∧ Q (.bl b) H
theorem call_isP {X : Cx} {a : Addr} {oe : Obj} {cls : Value} {d : Option Addr} {pn : List (Addr × Obj)} {xe : Value → Shared → Prop} (hz : Zc cls d oe) (hf : ∃ vs, oe.data = .fields vs) : CallR (X.tr ((a, oe) :: pn) xe) (.builtin "isinstance") (rIsP X.K a cls d) := by
  intro pins s σ H xs us Q I r h
  obtain ⟨c, cv, D, b, rfl, rfl, hcv, C, hd, e, q⟩ := h
  obtain ⟨u1, u2, rfl, r1, r2⟩ := vals2 r
  obtain rfl : u1 = Value.ref a := r1
  obtain rfl := hcv _ r2
  have pin := I.pin (a, oe) (List.mem_append_left _ List.mem_cons_self)
  obtain ⟨vs, hv⟩ := hf
  have J : ∃ od, PySem.W.InstAt s.heap a oe D od := by
    cases d with
    | none =>
      refine ⟨none, pin.1, hz.1, ?_, ?_⟩
      · unfold PySem.W.notCls
        rw [hv]
      · rw [hz.2]
        trivial
    | some dd =>
      obtain ⟨fs, hx⟩ := hd dd rfl
      have ox : ObjOk X.prog X.w H s.heap dd (.xd fs) := I.hok dd _ hx
      obtain ⟨mA, hns, _⟩ := ox
      obtain ⟨od, ho, _⟩ := lookIn_ns hns
      refine ⟨some od, pin.1, hz.1, ?_, ?_⟩
      · unfold PySem.W.notCls
        rw [hv]
      · rw [hz.2]
        exact ho
  obtain ⟨od, J⟩ := J
  exact PySem.W.kia_one (kit_pinned C) I.kIn J e (fun z => nomatch z) fun tk => ⟨.bl b, H, I.kept (t' := tk) fun _ _ z => z, rfl, q⟩
/-- e.n, e pinned -/
theorem pe_xp {X : Cx} {a C : Addr} {oe : Obj} {cls : Value} {d : Option Addr} {pn : List (Addr × Obj)} {xe : Value → Shared → Prop} {e : Expr} {te : TE} {pos : Pos} {n : Str} (T : XfC X.K C) (hno : PySem.W.findIn X.K (.ref C) n = some none)
    (hz : Zc cls d oe) (hf : ∃ vs, oe.data = .fields vs) (he : PE (X.tr ((a, oe) :: pn) xe) e te) (hb : attributeBase e n X.env (eval e X.env) = eval e X.env := by rfl) :
    PE (X.tr ((a, oe) :: pn) xe) (.Attribute e n pos) (tXf a cls d C n te) := by
  constructor
  intro pins s σ H Q I h
  refine attr_of hb (thn (he.run pins s σ H _ I h) ?_)
  rintro u s1 ⟨x, H1, I1, rx, rfl, rfl, dd, fs, v, rfl, ea, l, q⟩
  obtain rfl : u = Value.ref a := rx
  have pin := I1.pin (a, oe) (List.mem_append_left _ List.mem_cons_self)
  obtain ⟨vs, hv⟩ := hf
  have ox : ObjOk X.prog X.w H1 s1.heap dd (.xd fs) := I1.hok dd _ ea
  obtain ⟨mA, hns, hr⟩ := ox
  obtain ⟨od, ho, hl⟩ := lookIn_ns hns
  obtain ⟨u, hu, ru⟩ := RelO.some_of (v := v) (o := mA n) (by rw [← l]; exact hr n)
  have J : PySem.W.InstAt s1.heap a oe C (some od) := by
    refine ⟨pin.1, hz.1, ?_, ?_⟩
    · unfold PySem.W.notCls
      rw [hv]
    · rw [hz.2]
      exact ho
  have own := PySem.W.findObj_own T.hdC hno rfl (show PySem.W.lookIn n od = some (some u) by rw [hl, hu])
  exact HandSPX.exc_get I1.kIn J T.ga T.gg T.exC own (handed_of ru) ⟨v, H1, I1.tok _, ru, q⟩
end
end NV
/-! LamG -/
set_option Elab.async false
set_option linter.all false
set_option maxRecDepth 100000
set_option maxHeartbeats 1000000
/-! a lambda handed to _law_result, in a def of the top whose table of code objects is tracked -/
namespace NV
open PySem PySem.Spec PyProof.Rows L2
/-- the code object of a def of the top -/
structure CodeOf (K : PySem.W.Frag) (nm : Str) (st : Stmt) (f : Addr) (fd : FuncData) (c : Addr) : Prop where
  ex : ∃ (oc : Value) (od : Option Addr) (kV doc pm : Value) (an : Option Addr) (ct : Value) (osl : Array (Option Value)),
    fd = PySem.W.fnOf nm nm (defArgs st) (defBody st) (defScope st) .none kV doc pm an (.ref c) ct ∧ K.lookup f = some ⟨oc, od, .func fd, osl⟩ ∧ PySem.W.codeIn K (.ref c) nm = true
def AtC (K : PySem.W.Frag) (nm : Str) (st : Stmt) (c : Addr) : Prop := ∃ (f : Addr) (oc : Value) (od : Option Addr) (kV doc pm : Value) (an : Option Addr) (ct : Value) (sl : Array (Option Value)),
  PySem.W.nsIn K mainGlobals nm = some (some (.ref f)) ∧ K.lookup f = some ⟨oc, od, .func (PySem.W.fnOf nm nm (defArgs st) (defBody st) (defScope st) .none kV doc pm an (.ref c) ct), sl⟩ ∧ PySem.W.codeIn K (.ref c) nm = true ∧ PySem.W.keepIn K (.ref f) = true
section
variable {K : PySem.W.Frag} {h : Heap} {mg : Str → Option Value} {nm : Str} {st : Stmt} {c : Addr}
theorem atC_mk {f : Addr} {oc : Value} {od : Option Addr} {kV doc pm : Value} {an : Option Addr} {ct : Value} {sl : Array (Option Value)} (a : PySem.W.nsIn K mainGlobals nm = some (some (.ref f))) (l : K.lookup f = some ⟨oc, od, .func (PySem.W.fnOf nm nm (defArgs st) (defBody st) (defScope st) .none kV doc pm an (.ref c) ct), sl⟩)
    (d : PySem.W.codeIn K (.ref c) nm = true) (k : PySem.W.keepIn K (.ref f) = true) : AtC K nm st c := ⟨f, oc, od, kV, doc, pm, an, ct, sl, a, l, d, k⟩
theorem fnc_at {ps : List Str} (X : K.In h) (G : h.Ns mainGlobals mg) (a : AtC K nm st c)
    (hb : ∀ (kV doc pm : Value) (an : Option Addr) (cdv ct : Value) (us : List Value), us.length = ps.length → bindArgs (PySem.W.fnOf nm nm (defArgs st) (defBody st) (defScope st) .none kV doc pm an cdv ct) ⟨us, []⟩ = pure (ps.zip us)) : ∃ D : Fn K mg nm st ps, CodeOf K nm st D.f D.fd c := by
  obtain ⟨f, oc, od, kV, doc, pm, an, ct, sl, a1, l1, c1, k1⟩ := a
  have F := fun_mk (st := st) l1 c1 k1
  exact ⟨⟨f, _, F, PySem.W.mg_of X G a1, F.binds hb⟩, ⟨oc, od, kV, doc, pm, an, ct, sl, rfl, l1, c1⟩⟩
end
section
variable {P : Program} {w : World} {K : PySem.W.Frag} {mg : Str → Option Value} {base : Heap}
/-- okG, with the def's own code object -/
theorem okGC {x : Str} {st : Stmt} {f c : Addr} {fd : FuncData} {N ps : List Str} {k : Nat} {sp : Sp} (F : CodeOf K x st f fd c) (S : FnScope N ps (defScope st)) (len : ∀ vs H Q E, sp vs H Q E → vs.length = ps.length)
    (body : ∀ (A : Around) (outer : List Env) (s : Shared) (H : Hp) (vs : List V) (Q : VK) (E : XK), (A.deeper (envOfC x (defScope st) s.heap.objs.size f (.ref c))).guards = some [] → Room k (A.deeper (envOfC x (defScope st) s.heap.objs.size f (.ref c))) → sp vs H Q E →
      ∃ t, PSs (cxOf CX0 P w K mg base N x (defScope st) f (.ref c) A outer s H E).nox (defBody st) t ∧ t { nx := fun _ H' => Q .non H', rt := Q } (start N vs) H) : FnOkG P w K mg base CX0 (k + 1) f fd ps sp := by
  obtain ⟨oc, od, kV, doc, pm, an, ct, osl, rfl, lk, hcd⟩ := F.ex
  refine ⟨len, fun {A outer s H args us vs Q E} hg hr e0 hb rel hsp => ?_⟩
  have hl := len _ _ _ _ hsp
  have KX : K.In s.heap := e0.mod.kin.keeps fun b o e => (e0.bs b o e).1
  have lim : s.heap.NoLimit := e0.mod.nolimit.keeps fun b o e => (e0.bs b o e).1
  have named : ∀ y ∈ ps.zip us, (defScope st).names.lookup y.1 = some .local ∨ ((defScope st).names.lookup y.1 = some .cell ∧ ((cellsFrom (s.heap.objs.size + 1) (defScope st).names []).lookup y.1).isSome = true) := fun ⟨n, v⟩ hy =>
    (S.par n (List.of_mem_zip hy).1).elim .inl fun q => .inr ⟨q, PySem.W.cellsFrom_some _ _ _ (.inl q)⟩
  refine codeAny_call_function hr.depth (KX _ _ lk) rfl S.co S.gen rfl (PySem.W.codeRec_of KX hcd) (hb _ _ _ _ (wpAny_newFunctionEnv_cells S.kind named fun env he s1 x => ?_))
  subst he
  obtain ⟨t, ht, hq⟩ := body A outer s H vs Q E hg (hr.deeper _) hsp
  refine ⟨lim.keeps x.toInCall.keep, codeAny_func (wpAny_mono (ht.nox.run [] s1 (start N vs) H _ (inv_start S hr.hd e0 hl rel x) hq) (fun fl s' hs => ?_) fun e s' hs => hs)⟩
  match fl, hs with
  | .ret u, ⟨v, σ', H', J, rv, q⟩ => exact ⟨v, H', J.os, J.bare, J.base, J.hok, rv, q⟩
  | .next, ⟨σ', H', J, q⟩ => exact ⟨.non, H', J.os, J.bare, J.base, J.hok, rfl, q⟩
  | .brk, ⟨_, _, _, q⟩ => exact q.elim
  | .cont, ⟨_, _, _, q⟩ => exact q.elim
end
/-- the name of the code objects of the lambdas of the def nm -/
def lamQ (nm : Str) : Str := (nm ++ ".<locals>.") ++ "<lambda>"
/-- the table of nm's code objects, at P -/
def TabL (P : Addr) (nm : Str) (H : Hp) : Prop := LamX.TabS H P (lamQ nm)
theorem TabL.keep {P : Addr} {nm : Str} {H H' : Hp} (t : TabL P nm H) (k : Kp [] H H') : TabL P nm H' := t.ext fun b o e => k b o (by simp) e
theorem TabL.dr {P : Addr} {nm : Str} {D : Dr} {n : Nat} {H H' : Hp} (t : TabL P nm H) (d : DrAt D n H) (k : Kp D.ex H H') : TabL P nm H' := by
  obtain ⟨_, large, items, left, turn, h1, h2, _⟩ := d
  have no : ∀ b o, H b = some o → (∀ kv, o ≠ .dK kv) → (∀ xs, o ≠ .lst xs) → b ∉ D.ex := fun b o e n1 n2 z => by
    rcases List.mem_cons.mp z with z | z
    · rw [z, h1] at e; cases e; exact n1 _ rfl
    · rw [List.mem_singleton.mp z, h2] at e; cases e; exact n2 _ rfl
  obtain ⟨ps, t1, t2, t3⟩ := t
  refine ⟨ps, k _ _ (no _ _ t1 (fun _ z => by cases z) fun _ z => by cases z) t1, t2, fun pos cv e => ?_⟩
  obtain ⟨c, e1, e2⟩ := t3 pos cv e
  exact ⟨c, e1, k _ _ (no _ _ e2 (fun _ z => by unfold LamX.CodeO at z; cases z) fun _ z => by unfold LamX.CodeO at z; cases z) e2⟩
/-! ### what stays where a table grows -/
mutual
theorem Rp.extN {ex : List Addr} {H H' : Hp} (k : LamX.ExtN H H') : ∀ (d : PyData) (v : V), Rp ex H d v → Rp ex H' d v
  | .none, _, h => h
  | .bool _, _, h => h
  | .int _, _, h => h
  | .str _, _, h => h
  | .list ds, v, h => by
    obtain ⟨a, xs, e, na, h1, h2⟩ := h
    exact ⟨a, xs, e, na, k a _ h1 (fun _ z => by cases z), RpAll.extN k ds xs h2⟩
  | .tuple ds, v, h => by
    obtain ⟨a, xs, e, na, h1, h2⟩ := h
    exact ⟨a, xs, e, na, k a _ h1 (fun _ z => by cases z), RpAll.extN k ds xs h2⟩
  | .dict kvs, v, h => by
    obtain ⟨z, a, e, na, h1⟩ := h
    exact ⟨z, a, e, na, k a _ h1 (fun _ z => by cases z)⟩
theorem RpAll.extN {ex : List Addr} {H H' : Hp} (k : LamX.ExtN H H') : ∀ (ds : List PyData) (vs : List V), RpAll ex H ds vs → RpAll ex H' ds vs
  | [], _, h => h
  | d :: ds, vs, h => by
    obtain ⟨v, ws, e, h1, h2⟩ := h
    exact ⟨v, ws, e, Rp.extN k d v h1, RpAll.extN k ds ws h2⟩
end
theorem DrAt.extN {D : Dr} {n : Nat} {H H' : Hp} (h : DrAt D n H) (k : LamX.ExtN H H') : DrAt D n H' := by
  obtain ⟨h0, large, items, left, turn, h1, h2, h3, h4⟩ := h
  exact ⟨h0, large, items, left, turn, k _ _ h1 (fun _ z => by cases z), k _ _ h2 (fun _ z => by cases z), k _ _ h3 (fun _ z => by cases z), h4⟩
theorem seqL_extN {K : PySem.W.Frag} {a : Addr} {xs : List V} {H H' : Hp} (k : LamX.ExtN H H') (h : SqL K H a xs) : SqL K H' a xs := by
  rcases h with (h | ⟨o, h⟩) | h
  · exact .inl (.inl (k _ _ h (fun _ z => by cases z)))
  · exact .inl (.inr ⟨o, k _ _ h (fun _ z => by cases z)⟩)
  · exact .inr h
end NV
/-! TabW -/
set_option Elab.async false
set_option linter.all false
set_option maxRecDepth 100000
set_option maxHeartbeats 1000000
/-! tables and draws beside a list that changes -/
namespace NV
open PySem PySem.Spec PyProof.Rows L2
theorem TabL.off {P : Addr} {nm : Str} {D : Dr} {n : Nat} {H H' : Hp} {W : Addr} {xs : List V} (t : TabL P nm H) (d : DrAt D n H) (hW : H W = some (.lst xs)) (k : Kp (W :: D.ex) H H') : TabL P nm H' := by
  obtain ⟨_, large, items, left, turn, h1, h2, _⟩ := d
  have no : ∀ b o, H b = some o → (∀ kv, o ≠ .dK kv) → (∀ xs, o ≠ .lst xs) → b ∉ W :: D.ex := fun b o e n1 n2 z => by
    rcases List.mem_cons.mp z with z | z
    · rw [z, hW] at e; cases e; exact n2 _ rfl
    rcases List.mem_cons.mp z with z | z
    · rw [z, h1] at e; cases e; exact n1 _ rfl
    · rw [List.mem_singleton.mp z, h2] at e; cases e; exact n2 _ rfl
  obtain ⟨ps, t1, t2, t3⟩ := t
  refine ⟨ps, k _ _ (no _ _ t1 (fun _ z => by cases z) fun _ z => by cases z) t1, t2, fun pos cv e => ?_⟩
  obtain ⟨c, e1, e2⟩ := t3 pos cv e
  exact ⟨c, e1, k _ _ (no _ _ e2 (fun _ z => by unfold LamX.CodeO at z; cases z) fun _ z => by unfold LamX.CodeO at z; cases z) e2⟩
theorem live_w {D : Dr} {n : Nat} {H : Hp} {W : Addr} (d : DrAt D n H) (hW : H W ≠ none) : Live (W :: D.ex) H := fun b hb => by
  rcases List.mem_cons.mp hb with z | z
  · rw [z]; exact hW
  · exact d.live b z
theorem iteTb {A B : Prop} {b : Bool} (h : b = true) (a : A) : if b = true then A else B := by rw [if_pos h]; exact a
theorem iteFb {A B : Prop} {b : Bool} (h : b = false) (a : B) : if b = true then A else B := by rw [if_neg (by rw [h]; decide)]; exact a
theorem DrAt.off2 {D : Dr} {n : Nat} {T : List Addr} {H H' : Hp} (h : DrAt D n H) (k : Kp T H H') (o : ∀ b ∈ T, b ∉ D.all) : DrAt D n H' := by
  obtain ⟨h0, large, items, left, turn, h1, h2, h3, h4⟩ := h
  exact ⟨h0, large, items, left, turn, k _ _ (fun z => o _ z List.mem_cons_self) h1, k _ _ (fun z => o _ z (List.mem_cons_of_mem _ List.mem_cons_self)) h2, k _ _ (fun z => o _ z (List.mem_cons_of_mem _ (List.mem_cons_of_mem _ List.mem_cons_self))) h3, h4⟩
end NV
/-! W2 -/
set_option Elab.async false
set_option linter.all false
set_option maxRecDepth 100000
set_option maxHeartbeats 600000
/-! what one change of a log does to the costs -/
namespace NV
open PySem PySem.Spec PyProof.Rows L2
def Below (o : Str → Way) : Prop := ∀ c b, costW (o c) = some b → 0 ≤ b
theorem below_from {o : Str → Way} (h : Below o) (cs : List Str) : ∀ b, costW (wayFrom o cs) = some b → 0 ≤ b := by
  intro b e
  by_cases hn : cs.filterMap o = []
  · have q := (minW_iff (cs.filterMap o)).1 hn
    unfold wayFrom at e
    rw [q] at e
    cases e
  · obtain ⟨m, hm, hin, _⟩ := (minW_iff (cs.filterMap o)).2 hn
    unfold wayFrom at e
    rw [hm] at e
    obtain ⟨c, _, hc⟩ := List.mem_filterMap.mp hin
    exact h c b (by rw [hc]; exact e)
theorem below_step {o : Str → Way} (h : Below o) {e : Ent} (ok : e.Ok) : Below (stepB e o) := by
  have reads : ∀ (w : Way) (u : Str → Way), (∀ b, costW w = some b → 0 ≤ b) → Below u → Below (readers e w u) := by
    intro w u hw hu c b hb
    unfold readers at hb
    by_cases hc : c ∈ e.rs
    · rw [if_pos hc] at hb
      match w, hw, hb with
      | none, _, hb => exact hu c b hb
      | some (k, p), hw, hb =>
        rw [cost_better] at hb
        have hk := hw k rfl
        cases hx : costW (u c) with
        | none => rw [hx] at hb; exact (Option.some.inj hb) ▸ hk
        | some j =>
          rw [hx] at hb
          have hj := hu c j hx
          have hb : min k j = b := Option.some.inj hb
          omega
    · rw [if_neg hc] at hb
      exact hu c b hb
  match e, ok with
  | .wr id rs ws pr, ok =>
    refine reads _ _ (below_from h _) fun c b hb => ?_
    unfold blocked at hb
    by_cases hc : c ∈ (Ent.wr id rs ws pr).ws
    · rw [if_pos hc] at hb
      obtain ⟨_, _, _, hp⟩ := ok
      cases ho : o c with
      | none => rw [ho] at hb; cases hb
      | some x =>
        rw [ho] at hb
        have hx := h c x.1 (by rw [ho]; rfl)
        match pr, hp, hb with
        | some i, hp, hb =>
          have hi := (hp i rfl).1
          have hb : x.1 + i = b := Option.some.inj hb
          omega
    · rw [if_neg hc] at hb
      exact h c b hb
  | .qu id cs, _ => exact reads (some (0, [])) o (fun b e => by have e : (0 : Int) = b := Option.some.inj e; omega) h
theorem below_end : Below endW := fun c b e => by
  have e : (0 : Int) = b := Option.some.inj e
  omega
/-- one more entry at the end -/
theorem more_on {e : Ent} (ok : e.Ok) (c : Str) : leC 0 (costW (onB [] c)) (costW (onB [e] c)) := fun b hb => ⟨0, rfl, by have := below_step below_end ok c b hb; omega⟩
theorem readers_le {e : Ent} {s : Int} (hs : 0 ≤ s) (w : Way) {u : Str → Way} {z : Way} {c : Str} (h : leC s (costW (u c)) (costW z)) : leC s (costW (readers e w u c)) (costW z) := by
  unfold readers
  by_cases hc : c ∈ e.rs
  · rw [if_pos hc]
    match w with
    | none => exact h
    | some (k, p) => exact better_le hs _ h
  · rw [if_neg hc]
    exact h
/-- a write's price is the most that it adds -/
theorem write_on {id : Str} {rs ws : List Str} {i : Int} (hi : 0 ≤ i) (rest : List Ent) (c : Str) : leC i (costW (onB (.wr id rs ws (some i) :: rest) c)) (costW (onB rest c)) := by
  refine readers_le hi _ ?_
  unfold blocked
  by_cases hc : c ∈ (Ent.wr id rs ws (some i)).ws
  · rw [if_pos hc]
    exact cost_past_self _
  · rw [if_neg hc]
    exact leC.refl hi _
/-- a query adds nothing -/
theorem query_on {id : Str} {cs : List Str} (rest : List Ent) (c : Str) : leC 0 (costW (onB (.qu id cs :: rest) c)) (costW (onB rest c)) := readers_le (e := .qu id cs) (c := c) (Int.le_refl 0) (some (0, [])) (u := onB rest) (leC.refl (Int.le_refl 0) _)
/-- a sealed write lets nothing past -/
theorem sealed_on {id : Str} {rs ws : List Str} {pr : Option Int} (rest : List Ent) (c : Str) : leC 0 (costW (onB (.wr id rs ws pr :: rest) c)) (costW (onB (.wr id rs ws none :: rest) c)) := by
  show leC 0 (costW (readers (.wr id rs ws pr) (wayFrom (onB rest) ws) (blocked (.wr id rs ws pr) (onB rest)) c)) (costW (readers (.wr id rs ws none) (wayFrom (onB rest) ws) (blocked (.wr id rs ws none) (onB rest)) c))
  have hu : leC 0 (costW (blocked (.wr id rs ws pr) (onB rest) c)) (costW (blocked (.wr id rs ws none) (onB rest) c)) := by
    unfold blocked
    by_cases hc : c ∈ ws
    · rw [if_pos (show c ∈ (Ent.wr id rs ws pr).ws from hc), if_pos (show c ∈ (Ent.wr id rs ws none).ws from hc)]
      intro b e
      cases ho : onB rest c with
      | none => rw [ho] at e; cases e
      | some x => rw [ho] at e; cases e
    · rw [if_neg (show c ∉ (Ent.wr id rs ws pr).ws from hc), if_neg (show c ∉ (Ent.wr id rs ws none).ws from hc)]
      exact leC.refl (Int.le_refl 0) _
  unfold readers
  by_cases hc : c ∈ rs
  · rw [if_pos (show c ∈ (Ent.wr id rs ws pr).rs from hc), if_pos (show c ∈ (Ent.wr id rs ws none).rs from hc)]
    match wayFrom (onB rest) ws with
    | none => exact hu
    | some (k, p) => exact le_better (by omega) hu
  · rw [if_neg (show c ∉ (Ent.wr id rs ws pr).rs from hc), if_neg (show c ∉ (Ent.wr id rs ws none).rs from hc)]
    exact hu
/-! ### the law's claims -/
theorem nodup_mid {pre rest : List Ent} {e : Ent} (nd : ((pre ++ e :: rest).map Ent.id).Nodup) : ((pre ++ rest).map Ent.id).Nodup := by
  refine nd.sublist (List.Sublist.map _ ?_)
  exact List.Sublist.append_left (List.sublist_cons_self e rest) pre
/-- an entry at the end: no cost falls -/
theorem last_up {es : List Ent} {e : Ent} (ok : e.Ok) (nd : ((es ++ [e]).map Ent.id).Nodup) : rises (costsL es) (costsL (es ++ [e])) 0 := by
  have := costs_pre (Int.le_refl 0) (es := []) (es' := [e]) (more_on ok) (fun n x y hx => by cases hx) es (by rw [List.append_nil]; exact nd.sublist (List.Sublist.map _ (List.sublist_append_left es [e]))) nd
  rw [List.append_nil] at this
  exact this
/-- a write at the end: no cost rises by more than its price -/
theorem last_down {es : List Ent} {id : Str} {rs ws : List Str} {i : Int} (hi : 0 ≤ i) (nd : ((es ++ [Ent.wr id rs ws (some i)]).map Ent.id).Nodup) : rises (costsL (es ++ [Ent.wr id rs ws (some i)])) (costsL es) i := by
  have := costs_pre hi (es := [Ent.wr id rs ws (some i)]) (es' := []) (write_on hi []) (fun n x y _ hy => by cases hy) es nd (by rw [List.append_nil]; exact nd.sublist (List.Sublist.map _ (List.sublist_append_left es _)))
  rw [List.append_nil] at this
  exact this
theorem rest_nodup {pre rest : List Ent} {e : Ent} (nd : ((pre ++ e :: rest).map Ent.id).Nodup) : (rest.map Ent.id).Nodup := nd.sublist (List.Sublist.map _ ((List.sublist_cons_self e rest).trans (List.sublist_append_right pre _)))
theorem tail_nodup {pre rest : List Ent} {e : Ent} (nd : ((pre ++ e :: rest).map Ent.id).Nodup) : ((e :: rest).map Ent.id).Nodup := nd.sublist (List.Sublist.map _ (List.sublist_append_right pre _))
/-- a query left out: no cost falls -/
theorem no_query {pre rest : List Ent} {id : Str} {cs : List Str} (nd : ((pre ++ .qu id cs :: rest).map Ent.id).Nodup) : rises (costsL (pre ++ .qu id cs :: rest)) (costsL (pre ++ rest)) 0 :=
  costs_pre (Int.le_refl 0) (query_on rest) (rises_self (es := rest) (Int.le_refl 0) (rest_nodup (pre := pre) (e := .qu id cs) nd)) pre nd (nodup_mid nd)
/-- a write left out: no cost falls by more than its price -/
theorem no_write {pre rest : List Ent} {id : Str} {rs ws : List Str} {i : Int} (hi : 0 ≤ i) (nd : ((pre ++ .wr id rs ws (some i) :: rest).map Ent.id).Nodup) : rises (costsL (pre ++ .wr id rs ws (some i) :: rest)) (costsL (pre ++ rest)) i := by
  refine costs_pre hi (write_on hi rest) (fun n x y hx hy => ?_) pre nd (nodup_mid nd)
  rcases List.mem_append.mp hx with h | h
  · have e : n = id := by
      have h : (n, x) ∈ [(id, costW (wayFrom (onB rest) ws))] := h
      exact (Prod.mk.inj (List.mem_singleton.mp h)).1
    have t := List.nodup_cons.mp (tail_nodup nd)
    refine absurd ?_ t.1
    have : n ∈ (costsL rest).map (·.1) := List.mem_map.mpr ⟨_, hy, rfl⟩
    rw [costsL_names, e] at this
    obtain ⟨u, hu, hid⟩ := List.mem_map.mp this
    exact List.mem_map.mpr ⟨u, (List.mem_filter.mp hu).1, hid⟩
  · exact rises_self hi (rest_nodup nd) n x y h hy
/-- a write sealed: no cost falls -/
theorem seal_up {pre rest : List Ent} {id : Str} {rs ws : List Str} {pr : Option Int} (nd : ((pre ++ .wr id rs ws pr :: rest).map Ent.id).Nodup) : rises (costsL (pre ++ .wr id rs ws pr :: rest)) (costsL (pre ++ .wr id rs ws none :: rest)) 0 := by
  refine costs_pre (Int.le_refl 0) (sealed_on rest) ?_ pre nd (by simpa [Ent.id] using nd)
  exact rises_self (es := .wr id rs ws pr :: rest) (Int.le_refl 0) (tail_nodup nd)
/-- behind the last write nothing costs -/
theorem free_on : ∀ {es : List Ent}, (∀ e ∈ es, e.isW = false) → ∀ c, costW (onB es c) = some 0
  | [], _, c => rfl
  | .wr .. :: es, h, _ => absurd (h _ List.mem_cons_self) (by simp [Ent.isW])
  | .qu id cs :: es, h, c => by
    have ih := free_on (es := es) (fun e he => h e (List.mem_cons_of_mem _ he)) c
    show costW (readers (.qu id cs) (some (0, [])) (onB es) c) = some 0
    unfold readers
    by_cases hc : c ∈ (Ent.qu id cs).rs
    · rw [if_pos hc]
      show costW (better _ (onB es c)) = _
      rw [cost_better, ih]
      rfl
    · rw [if_neg hc]
      exact ih
theorem last_free {pre rest : List Ent} {e : Ent} (hw : e.isW = true) (ok : e.Ok) (h : ∀ u ∈ rest, u.isW = false) : costW (wayFrom (onB rest) e.ws) = some 0 := by
  match e, hw, ok with
  | .wr id rs ws pr, _, ok =>
    obtain ⟨_, _, hws, _⟩ := ok
    obtain ⟨c, hc⟩ : ∃ c, c ∈ ws := by
      have := hws.lo
      cases ws with
      | nil => simp at this
      | cons a l => exact ⟨a, List.mem_cons_self⟩
    obtain ⟨x, hx⟩ : ∃ x, onB rest c = some x := by
      have := free_on h c
      cases q : onB rest c with
      | none => rw [q] at this; cases this
      | some x => exact ⟨x, rfl⟩
    have hin : x ∈ ws.filterMap (onB rest) := List.mem_filterMap.mpr ⟨c, hc, hx⟩
    obtain ⟨m, hm, hmem, _⟩ := (minW_iff (ws.filterMap (onB rest))).2 (fun z => by rw [z] at hin; cases hin)
    obtain ⟨d, _, hd⟩ := List.mem_filterMap.mp hmem
    have := free_on h d
    rw [hd] at this
    show costW (minW (ws.filterMap (onB rest))) = some 0
    rw [hm]
    exact this
end NV
/-! W3 -/
set_option Elab.async false
set_option linter.all false
set_option maxRecDepth 100000
set_option maxHeartbeats 600000
/-! < of ways; min of ways with a default -/
namespace NV
open PySem PySem.Spec PyProof.Rows L2
open PySem.W (dataLt alike alikeAll AlikeAll readsAll_len readsAll_atA cmpIn_lt iter_listW moved_old argBest_fold)
def rLtWay : R2 := fun x y H Q => ∃ (a b : Int × Path) (ex : List Addr), Rp ex H (someD a) x ∧ Rp ex H (someD b) y ∧ Q (.bl (wayLt a b)) H
theorem op_ltWay {X : Cx} (hu : X.A.units + 64 < cLine) : OpR X (compareOp .Lt) rLtWay := by
  intro pins s σ H x y v u Q I rx ry h
  obtain ⟨a, b, ex, ra, rb, q⟩ := h
  obtain ⟨as, r1⟩ := rp_reads I.hok _ x v ra rx
  obtain ⟨bs, r2⟩ := rp_reads I.hok _ y u rb ry
  refine PySem.W.lt_data r1 r2 (alike_ways a b) (by simp [someD]) ?_ ⟨.bl _, H, I, rfl, q⟩
  have := depth_way a
  have := Nat.min_le_left (someD a).depth (someD b).depth
  omega
theorem depths_way : ∀ ds : List (Int × Path), PyData.depthAll (ds.map someD) ≤ 3
  | [] => by simp [PyData.depthAll]
  | d :: ds => by
    have h1 := depths_way ds
    have h2 := depth_way d
    rw [List.map_cons]
    simp only [PyData.depthAll]
    omega
theorem alikes_way (ds : List (Int × Path)) : AlikeAll (ds.map someD) := by
  constructor
  · intro x hx y hy
    obtain ⟨a, _, rfl⟩ := List.mem_map.mp hx
    obtain ⟨b, _, rfl⟩ := List.mem_map.mp hy
    exact alike_ways a b
  · intro x hx
    obtain ⟨a, _, rfl⟩ := List.mem_map.mp hx
    simp [someD]
section
variable {P : Program} {w : World} {A : Around} {E : Value → Shared → Prop} {s : Shared}
/-- min(l, default=d): which item it is -/
theorem min_item {l : Addr} {vs : Array Value} {xs : List PyData} {as : List Addr} {d : Value} {Q : Value → Shared → Prop} (hh : A.handled = none) (hl : s.heap.IsList l vs) (hr : ReadsAll s.heap vs.toList xs as) (ha : AlikeAll xs) (hu : A.units + 1 + PyData.depthAll xs < cLine)
    (none_ : xs = [] → ∀ g tk, (∀ b o, s.heap.get? b = some o → g.get? b = some o) → Q d { s with heap := g, toks := tk })
    (some_ : ∀ (y : PyData) (ys : List PyData) (i : Nat) v g tk, xs = y :: ys → vs[i]? = some v → xs[i]? = some (PySem.W.minD y ys) → (∀ b o, s.heap.get? b = some o → g.get? b = some o) → Q v { s with heap := g, toks := tk }) :
    wpAny (model P w) A (call (.builtin "min") [.ref l] [(Str.ofString "default", d)]) Q E s := by
  have size := readsAll_len hr
  refine call_min_walkD (iter_listW (A := A.in1) hh hl fun s1 e W st hfp hw hk => ?_)
  have none' : vs.size = 0 → ∀ s2, Moved [s.heap.objs.size] (fun a b => b = a) s1 s2 → Q d s2 := fun hz s2 m => by
    obtain ⟨g, tk, rfl, old⟩ := moved_old e rfl m
    exact none_ (List.eq_nil_of_length_eq_zero (by rw [← size]; exact hz)) g tk old
  refine ⟨_, _, _, _, _, _, _, s.heap, fun i j => dataLt (xs.getD i .none) (xs.getD j .none), rfl, W, st, hfp, hw, hk, none', fun pos => ⟨cmpIn_lt (A := A.in1) hr ha (show A.units + 1 + _ < _ from hu), fun v s2 at_ m => ?_⟩⟩
  obtain ⟨g, tk, rfl, old⟩ := moved_old e rfl m
  match xs, size, at_, hr with
  | [], size, _, _ => exact absurd pos (by rw [size]; exact Nat.lt_irrefl 0)
  | y :: ys, size, at_, hr =>
    have last : vs.size - 1 = ys.length := by rw [size]; rfl
    have best := argBest_fold dataLt PyData.none y ys ys.length (Nat.le_refl _)
    rw [List.take_length] at best
    rw [last] at at_
    refine some_ y ys _ v g tk rfl at_ ?_ old
    have lt : argBest (fun i j => dataLt ((y :: ys).getD i .none) ((y :: ys).getD j .none)) ys.length < (y :: ys).length := by
      rw [List.length_cons]
      exact Nat.lt_succ_of_le best.1
    rw [List.getElem?_eq_getElem lt]
    have := best.2
    rw [List.getD_eq_getElem?_getD, List.getElem?_eq_getElem lt] at this
    exact congrArg some this
end
def rMinWay : List V → List V → Hp → VK → Prop := fun vs zs H Q => ∃ (l : Addr) (xs : List V) (ds : List (Int × Path)) (ex : List Addr), vs = [.ref l] ∧ zs = [.non] ∧ H l = some (.lst xs) ∧ RpAll ex H (ds.map someD) xs ∧ ∀ v, Rp ex H (wayD (minW ds)) v → Q v H
theorem cr_minWay {X : Cx} (hc : X.calm = true) (hu : X.A.units + 64 < cLine) : CallRK X (.builtin "min") ["default"] rMinWay := by
  intro pins s σ H vs zs us ws Q I r rz h
  obtain ⟨l, xs, ds, ex, rfl, rfl, hl, hx, q⟩ := h
  rw [Vals.ref1 r]
  obtain ⟨u, rfl, ru⟩ : ∃ u, ws = [u] ∧ RelV .non u := by
    cases rz with
    | cons h t => cases t; exact ⟨_, rfl, h⟩
  obtain rfl : u = Value.none := ru
  obtain ⟨_, its, n, rv, ho⟩ := I.hok l _ hl
  obtain ⟨as, ra⟩ := rps_reads I.hok _ xs its hx rv
  have isl : s.heap.IsList l its.toArray := ⟨_, ho, rfl, _, rfl⟩
  show wpAny _ _ (call (.builtin "min") [.ref l] [(Str.ofString "default", .none)]) _ _ s
  refine min_item (xs := ds.map someD) (I.ok.hd hc) isl (by simpa using ra) (alikes_way ds) (by have := depths_way ds; omega) (fun e g tk old => ?_) fun y ys i v g tk e hv hi old => ?_
  · have e : ds = [] := List.map_eq_nil_iff.mp e
    exact ⟨.non, H, I.kept (t' := tk) old, rfl, q .non (by rw [e]; rfl)⟩
  · obtain ⟨d0, ds0, rfl, rfl, rfl⟩ := List.map_eq_cons_iff.mp e
    obtain ⟨x, hx1, rx⟩ := RpAll.at hx hi
    have hv' : its[i]? = some v := by simpa using hv
    obtain ⟨v2, hv2, rxv⟩ := Vals.get rv hx1
    rw [hv'] at hv2
    cases hv2
    refine ⟨x, H, I.kept (t' := tk) old, rxv, q x ?_⟩
    rw [minD_way] at rx
    exact rx
end NV
/-! W4 -/
set_option Elab.async false
set_option linter.all false
set_option maxRecDepth 100000
set_option maxHeartbeats 600000
/-! the package's way_onward, way_from, add_blocker, add_reader -/
namespace NV
open PySem PySem.Spec PyProof.Rows L2
open C8 (pss_cut pe_gc)
abbrev sWayOnward : Stmt := topS 39
theorem scWayOnward : FnScope ["onward", "cell"] ["onward", "cell"] (defScope sWayOnward) := ⟨rfl, rfl, rfl, by decide +kernel, rfl, by decide +kernel, by decide +kernel⟩
abbrev sWayFrom : Stmt := topS 40
theorem scWayFrom : FnScope ["onward", "entry", "ways", "cell", "way"] ["onward", "entry"] (defScope sWayFrom) := ⟨rfl, rfl, rfl, by decide +kernel, rfl, by decide +kernel, by decide +kernel⟩
/-- the dict at od holds o -/
structure OnAt (ex : List Addr) (od : Addr) (o : Str → Way) (n : Nat) (H : Hp) : Prop where
  at_ : ∃ kvs : List (Key × V), H od = some (.dK kvs) ∧ kvs.length ≤ n ∧ ∀ c : Str, match valV kvs (Sum.inr c : Key) with
    | some v => Rp ex H (wayD (o c)) v
    | none => o c = endW c
theorem OnAt.keep {ex : List Addr} {od : Addr} {o : Str → Way} {n : Nat} {H H' : Hp} (h : OnAt ex od o n H) (k : Kp [] H H') : OnAt ex od o n H' := by
  obtain ⟨kvs, e, l, q⟩ := h
  refine ⟨kvs, k _ _ (by simp) e, l, fun c => ?_⟩
  have := q c
  cases hv : valV kvs (Sum.inr c : Key) with
  | none => rw [hv] at this; exact this
  | some v => rw [hv] at this; exact Rp.keep (k.mono (by simp)) _ _ this
theorem OnAt.more {ex : List Addr} {od : Addr} {o : Str → Way} {n m : Nat} {H : Hp} (h : OnAt ex od o n H) (l : n ≤ m) : OnAt ex od o m H := by
  obtain ⟨kvs, e, l', q⟩ := h
  exact ⟨kvs, e, by omega, q⟩
theorem OnAt.same {ex : List Addr} {od : Addr} {o o' : Str → Way} {n : Nat} {H : Hp} (h : OnAt ex od o n H) (e : ∀ c, o c = o' c) : OnAt ex od o' n H := by
  rw [show o' = o from funext fun c => (e c).symm]
  exact h
/-- one cell is stored -/
theorem OnAt.put {ex : List Addr} {od : Addr} {o : Str → Way} {n : Nat} {H : Hp} (h : OnAt ex od o n H) (ho : od ∈ ex) (k : Str) {w : Way} {v : V} (rv : Rp ex H (wayD w) v) (hn : n < sizeLine) :
    ∃ H', DPut H od (.str k) v H' ∧ Kp [od] H H' ∧ OnAt ex od (fun c => if c = k then w else o c) (n + 1) H' := by
  obtain ⟨kvs, e, l, q⟩ := h
  have kp : Kp ex H (upd H od (.dK (putK kvs (Sum.inr k : Key) v))) := Kp.put ho
  refine ⟨_, DPut.k (k := (Sum.inr k : Key)) e (by omega), Kp.put (by simp), _, upd_same, ?_, fun c => ?_⟩
  · unfold putK
    split
    · rw [List.length_map]; omega
    · rw [List.length_append, List.length_singleton]; omega
  · rw [valV_put]
    by_cases hc : c = k
    · rw [if_pos (by rw [hc]), if_pos hc]
      exact Rp.keep kp _ _ rv
    · rw [if_neg (fun z => hc (Sum.inr.inj z)), if_neg hc]
      have := q c
      cases hv : valV kvs (Sum.inr c : Key) with
      | none => rw [hv] at this; exact this
      | some u => rw [hv] at this; exact Rp.keep kp _ _ this
def spOnward : Sp := fun vs H Q _ => ∃ (od : Addr) (c : Str) (o : Str → Way) (n : Nat) (ex : List Addr), vs = [.ref od, .str c] ∧ Live ex H ∧ OnAt ex od o n H ∧ ∀ v H', Kp [] H H' → Rp ex H' (wayD (o c)) v → Q v H'
section
variable {P : Program} {w : World} {K : PySem.W.Frag} {mg : Str → Option Value} {base : Heap}
theorem ok_onward (DWayOnward : Fn K mg "way_onward" sWayOnward ["onward", "cell"]) (g1 : ∃ u, mg "END" = some u ∧ L2.RelV (.str "") u) : FnOk P w K mg base CX0 1 DWayOnward.f DWayOnward.fd ["onward", "cell"] spOnward := by
  refine DWayOnward.F.ok scWayOnward (fun vs H Q E h => ?_) (fun cdv A outer s H vs Q E hr h => ?_)
  · obtain ⟨od, c, o, n, ex, rfl, _⟩ := h
    rfl
  obtain ⟨od, c, o, n, ex, rfl, lv, on, q⟩ := h
  have hu := hu_of hr
  refine ⟨_, pss_one (ps_ret (pe_ifExp (pt_cmp (pc_din hu (pv 1) (pv 0))) (pe_dget hu (pv 0) (pv 1) (fun _ _ => rfl)) (pe_tup (pa_cons pe_int (pa_cons (pe_tup (pa_cons (pe_tup (pa_cons (pe_gc (v := .str "") rfl g1) (pa_cons (pv 1) pa_nil))) pa_nil)) pa_nil))))), ?_⟩
  obtain ⟨kvs, e, _, all⟩ := on.at_
  have hc := all c
  refine ⟨_, rfl, _, rfl, od, _, rfl, DGet.k (k := Sum.inr c) e, _, rfl, ?_⟩
  cases hv : valV kvs (Sum.inr c : Key) with
  | some v =>
    rw [hv] at hc
    refine iteT ⟨_, rfl, _, rfl, od, v, rfl, by rw [← hv]; exact DGet.k (k := Sum.inr c) e, q v H Kp.refl hc⟩
  | none =>
    rw [hv] at hc
    refine iteF ⟨_, rfl, (by show 2 ≤ sizeLine; decide), fun p1 n1 => ⟨(by show 1 ≤ sizeLine; decide), fun p2 n2 => ⟨(by show 2 ≤ sizeLine; decide), fun p3 n3 => ?_⟩⟩⟩
    have k1 : Kp [] H (upd H p1 (.tup [.str "", .str c])) := Kp.laid n1
    have k2 := Kp.laid (ex := []) (o := .tup [.ref p1]) n2
    have k3 := Kp.laid (ex := []) (o := .tup [.int 0, .ref p2]) n3
    have f1 := lv.fresh n1
    have f2 := (lv.kp0 k1).fresh n2
    have f3 := ((lv.kp0 k1).kp0 k2).fresh n3
    refine q _ _ ((k1.trans k2).trans k3) ?_
    rw [hc]
    have r1 : Rp ex (upd H p1 (.tup [.str "", .str c])) (stepD ("", c)) (.ref p1) := rp_new f1 n1 ⟨_, _, rfl, rfl, RpAll.one rfl⟩
    have r2 : Rp ex _ (pathD [("", c)]) (.ref p2) := rp_new f2 n2 (RpAll.one r1)
    exact rp_new f3 n3 ⟨_, _, rfl, rfl, RpAll.one r2⟩
end
end NV
/-! W5 -/
set_option Elab.async false
set_option linter.all false
set_option maxRecDepth 100000
set_option maxHeartbeats 600000
/-! the package's way_from -/
namespace NV
open PySem PySem.Spec PyProof.Rows L2
open C8 (pss_cut pe_gc)
theorem OnAt.apart {ex : List Addr} {od : Addr} {o : Str → Way} {n : Nat} {H : Hp} {p : Addr} (h : OnAt ex od o n H) (hp : H p = none) : OnAt (p :: ex) od o n H := by
  obtain ⟨kvs, e, l, q⟩ := h
  refine ⟨kvs, e, l, fun c => ?_⟩
  have := q c
  cases hv : valV kvs (Sum.inr c : Key) with
  | none => rw [hv] at this; exact this
  | some v => rw [hv] at this; exact Rp.apart hp _ _ this
def spFrom : Sp := fun vs H Q _ => ∃ (od : Addr) (v : V) (e : Ent) (o : Str → Way) (n : Nat) (ex : List Addr), vs = [.ref od, v] ∧ Rp ex H e.data v ∧ e.isW = true ∧ e.ws.length ≤ 3 ∧ Live ex H ∧ OnAt ex od o n H ∧ ∀ u H', Kp [] H H' → Rp ex H' (wayD (wayFrom o e.ws)) u → Q u H'
/-- the ways that are none are left out -/
theorem filter_take {o : Str → Way} {ws : List Str} {j : Nat} {c : Str} (h : ws[j]? = some c) : (ws.take (j + 1)).filterMap o = (ws.take j).filterMap o ++ (match o c with | some x => [x] | none => []) := by
  rw [List.take_add_one, h, List.filterMap_append]
  congr 1
  show List.filterMap o [c] = _
  cases hc : o c <;> simp [hc]
section
variable {P : Program} {w : World} {K : PySem.W.Frag} {mg : Str → Option Value} {base : Heap}
theorem ok_wayfrom (DWayFrom : Fn K mg "way_from" sWayFrom ["onward", "entry"]) (DWayOnward : Fn K mg "way_onward" sWayOnward ["onward", "cell"]) (b_min : mg "min" = none) (g1 : ∃ u, mg "WRITES" = some u ∧ L2.RelV (.int 3) u)
    (GWayOnward : FnOk P w K mg base CX0 1 DWayOnward.f DWayOnward.fd ["onward", "cell"] spOnward) : FnOk P w K mg base CX0 2 DWayFrom.f DWayFrom.fd ["onward", "entry"] spFrom := by
  refine DWayFrom.F.ok scWayFrom (fun vs H Q E h => ?_) (fun cdv A outer s H vs Q E hr h => ?_)
  · obtain ⟨od, v, e, o, n, ex, rfl, _⟩ := h
    rfl
  obtain ⟨od, v, e, o, n, ex, rfl, rv, hw, h3, lv, on, q⟩ := h
  refine ⟨_, pss_cons (ps_setLc (i := 2) (own := [("cell", 3)]) (g := gName 3) (tt := tYes) (by rfl) scWayFrom.nd rfl rfl (sw_true rfl rfl rfl (by decide +kernel)) (piTupE K (pe_ix (ixtE K) (pv 1) (pe_gc (v := .int 3) rfl g1) (fun _ _ => rfl))) (blkOk_by (N := ["onward", "entry", "ways", "cell", "way"]) (sc := defScope sWayFrom) (by decide +kernel)) (fun _ _ _ _ _ => (pg_name (i := 3) scWayFrom.nd rfl (.inl rfl))) (fun _ _ _ _ _ => pts_nil) (fun _ _ _ _ _ => (pe_fn DWayOnward GWayOnward hr (pa_cons (pv 0) (pa_cons (pv 3) pa_nil)))))
      (pss_one (ps_ret (pe_callBK (cr_minWay rfl hr.units) (by rfl) b_min (by decide +kernel) (pa_cons (pe_lc (own := [("way", 4)]) (g := gName 4) (by rfl) scWayFrom.nd (piListE K (pv 2)) (blkOk_by (N := ["onward", "entry", "ways", "cell", "way"]) (sc := defScope sWayFrom) (by decide +kernel)) (fun _ _ _ _ _ => (pg_name (i := 4) scWayFrom.nd rfl (.inl rfl))) (fun _ _ _ _ _ => (pts_one (pt_cmpR op_notN (pv 4) pe_non (nomark _)))) (fun _ _ _ _ _ => (pv 4))) pa_nil) (pk_cons pe_non pk_nil)))), ?_⟩
  obtain ⟨ds, ed, e3, _⟩ := ent_writes hw
  refine ⟨_, rfl, c_of (ent_ix rv ed e3 rfl fun u ru => ?_)⟩
  obtain ⟨wa, cs, rfl, nwa, hwa, hcs⟩ := ru
  obtain rfl := strs_of hcs
  have hlen : (e.ws.map V.str).length = e.ws.length := List.length_map ..
  have line3 : (3 : Nat) < sizeLine := by decide
  have atc : ∀ {j : Nat} {x : V}, (e.ws.map V.str)[j]? = some x → ∃ c, e.ws[j]? = some c ∧ V.str c = x := fun {j x} hx => by
    rw [List.getElem?_map] at hx
    cases hcj : e.ws[j]? with
    | none => rw [hcj] at hx; cases hx
    | some c => rw [hcj] at hx; exact ⟨c, rfl, Option.some.inj hx⟩
  refine ⟨wa, rfl, ⟨_, .inl (.inl hwa)⟩, fun L nL => ?_⟩
  have kL0 : Kp [] H (upd H L (.lst [])) := Kp.laid nL
  have onL : OnAt (L :: ex) od o n (upd H L (.lst [])) := (on.apart nL).keep kL0
  have lvL : Live (L :: ex) (upd H L (.lst [])) := fun b hb => by
    rcases List.mem_cons.mp hb with z | z
    · rw [z, upd_same]; exact fun q => by cases q
    · exact lv.kp0 kL0 b z
  have nw : wa ≠ L := fun z => by rw [z, nL] at hwa; cases hwa
  have hwaL : (upd H L (.lst [])) wa = some (.tup (e.ws.map V.str)) := by rw [upd_ne nw]; exact hwa
  have hL0 : (upd H L (.lst [])) L = some (.lst []) := upd_same
  have back : ∀ {H' : Hp}, Kp [L] (upd H L (.lst [])) H' → Kp [] H H' := fun k => Kp.drop ((kL0.mono (by simp)).trans k) nL
  obtain ⟨H0, e0⟩ : ∃ H0, upd H L (.lst []) = H0 := ⟨_, rfl⟩
  rw [e0] at kL0 onL lvL hwaL hL0
  have back : ∀ {H' : Hp}, Kp [L] H0 H' → Kp [] H H' := fun k => back (by rw [e0]; exact k)
  -- what stands while the list grows
  have onK : ∀ {H' : Hp}, Kp [L] H0 H' → (∃ acc : List V, H' L = some (.lst acc)) → OnAt (L :: ex) od o n H' ∧ Live (L :: ex) H' := fun {H'} k ⟨acc, hL⟩ => by
    obtain ⟨kvs, ek, lk, qk⟩ := onL.at_
    have no : od ≠ L := fun z => by rw [z, hL0] at ek; cases ek
    refine ⟨⟨kvs, k _ _ (by simpa using no) ek, lk, fun c => ?_⟩, fun b hb => ?_⟩
    · have := qk c
      cases hv : valV kvs (Sum.inr c : Key) with
      | none => rw [hv] at this; exact this
      | some v => rw [hv] at this; exact Rp.keep (k.mono (by simp)) _ _ this
    · by_cases hbL : b = L
      · rw [hbL, hL]; exact fun q => by cases q
      · intro z
        cases h0 : H0 b with
        | none => exact lvL b hb h0
        | some u => rw [k b u (by simpa using hbL) h0] at z; cases z
  refine lc_tup (K := K) (xs := e.ws.map V.str) (fun j H' => ∃ acc : List V, Kp [L] H0 H' ∧ H' L = some (.lst acc) ∧ acc.length = j ∧ RpAll (L :: ex) H' ((e.ws.take j).map fun c => wayD (o c)) acc) (by rw [e0]; exact ⟨[], Kp.refl, hL0, rfl, rfl⟩) (fun j H' hj ⟨acc, k, _⟩ => .inl (.inl (k _ _ (by simpa using nw) hwaL))) (fun j x H' hx ⟨acc, k, hL, ha, hr2⟩ => ?_) fun H' ⟨acc, k, hL, ha, hr2⟩ => ?_
  · obtain ⟨c, hc, rfl⟩ := atc hx
    have hj : j < e.ws.length := (List.getElem?_eq_some_iff.mp hc).1
    obtain ⟨on1, lv1⟩ := onK k ⟨acc, hL⟩
    refine ⟨rfl, ?_⟩
    refine ⟨_, rfl, _, rfl, od, c, o, n, L :: ex, rfl, lv1, on1, fun u H2 k2 ru => ⟨acc, k2 _ _ (by simp) hL, by omega, acc ++ [u], ?_, upd_same, by rw [List.length_append, ha]; rfl, ?_⟩⟩
    · exact (k.trans (k2.mono (by simp))).trans (Kp.put (by simp))
    · have kp : Kp (L :: ex) H2 (upd H2 L (.lst (acc ++ [u]))) := Kp.put (by simp)
      rw [List.take_add_one, hc, List.map_append]
      exact RpAll.app (RpAll.keep ((k2.mono (by simp)).trans kp) _ _ hr2) (RpAll.one (Rp.keep kp _ _ ru))
  · rw [hlen, List.take_length] at hr2
    rw [hlen] at ha
    -- the ways that are there
    refine ⟨_, rfl, L, rfl, ⟨_, .inl (.inl hL)⟩, fun D nD => ?_⟩
    have nLD : L ≠ D := fun z => by rw [z, nD] at hL; cases hL
    have rD : RpAll (D :: L :: ex) H' (e.ws.map fun c => wayD (o c)) acc := RpAll.apart nD _ _ hr2
    have kD0 : Kp [] H' (upd H' D (.lst [])) := Kp.laid nD
    refine lc_list (K := K) (xs := acc) (fun j H2 => ∃ acc2 : List V, Kp [D] (upd H' D (.lst [])) H2 ∧ H2 D = some (.lst acc2) ∧ acc2.length ≤ j ∧ RpAll (D :: L :: ex) H2 (((e.ws.take j).filterMap o).map someD) acc2) ⟨[], Kp.refl, upd_same, Nat.le_refl _, rfl⟩ (fun j H2 hj ⟨acc2, k2, _⟩ => .inl (.inl (k2 _ _ (by simpa using nLD) (by rw [upd_ne nLD]; exact hL)))) (fun j x H2 hx ⟨acc2, k2, hD, ha2, hr3⟩ => ?_) fun H2 ⟨acc2, k2, hD, ha2, hr3⟩ => ?_
    · obtain ⟨d, hd, rd⟩ := RpAll.back rD hx
      have hj : j < acc.length := (List.getElem?_eq_some_iff.mp hx).1
      have hjw : j < e.ws.length := by omega
      have hcj : e.ws[j]? = some e.ws[j] := List.getElem?_eq_getElem hjw
      have ed2 : d = wayD (o e.ws[j]) := by
        rw [List.getElem?_map, hcj] at hd
        exact (Option.some.inj hd).symm
      subst ed2
      have rx : Rp (D :: L :: ex) H2 (wayD (o e.ws[j])) x := Rp.keep ((kD0.mono (by simp)).trans (k2.mono (by simp))) _ _ rd
      refine ⟨rfl, ?_⟩
      refine ⟨_, rfl, rfl, _, rfl, ?_⟩
      rw [filter_take hcj]
      cases ho : o e.ws[j] with
      | none =>
        rw [ho] at rx
        obtain rfl : x = .non := rx
        refine iteF ⟨acc2, k2, hD, by omega, ?_⟩
        simp only [List.append_nil]
        exact hr3
      | some y =>
        rw [ho] at rx
        have nx : x ≠ .non := by
          obtain ⟨a, xs, rfl, _⟩ := rx
          exact fun z => by cases z
        rw [decide_eq_false nx]
        refine iteT ⟨_, rfl, acc2, hD, by omega, acc2 ++ [x], k2.trans (Kp.put (by simp)), upd_same, by rw [List.length_append, List.length_singleton]; omega, ?_⟩
        have kp : Kp (D :: L :: ex) H2 (upd H2 D (.lst (acc2 ++ [x]))) := Kp.put (by simp)
        rw [List.map_append]
        exact RpAll.app (RpAll.keep kp _ _ hr3) (RpAll.one (Rp.keep kp _ _ rx))
    · rw [ha, List.take_length] at hr3
      refine ⟨D, acc2, e.ws.filterMap o, D :: L :: ex, rfl, rfl, hD, hr3, fun u ru => q u H2 ?_ ?_⟩
      · exact (back k).trans (Kp.drop ((kD0.mono (by simp)).trans k2) nD)
      · exact Rp.less (by intro b hb; simp [hb]) _ _ ru
end
end NV
/-! W6 -/
set_option Elab.async false
set_option linter.all false
set_option maxRecDepth 100000
set_option maxHeartbeats 1000000
/-! the package's add_blocker, add_reader -/
namespace NV
open PySem PySem.Spec PyProof.Rows L2
open C8 (pss_cut pe_gc)
abbrev sAddBlocker : Stmt := topS 41
theorem scAddBlocker : FnScope ["onward", "entry", "cell", "way"] ["onward", "entry"] (defScope sAddBlocker) := ⟨rfl, rfl, rfl, by decide +kernel, rfl, by decide +kernel, by decide +kernel⟩
abbrev sAddReader : Stmt := topS 42
theorem scAddReader : FnScope ["onward", "entry", "way", "cell", "cost", "path", "passing", "reading"] ["onward", "entry", "way"] (defScope sAddReader) := ⟨rfl, rfl, rfl, by decide +kernel, rfl, by decide +kernel, by decide +kernel⟩
/-- the dict of ways, and what it rests on, while the dict alone changes -/
theorem OnAt.live {ex : List Addr} {od : Addr} {o : Str → Way} {n : Nat} {H H' : Hp} (on : OnAt ex od o n H') (lv : Live ex H) (k : Kp [od] H H') : Live ex H' := fun b hb z => by
  by_cases h : b = od
  · obtain ⟨kvs, e, _⟩ := on.at_
    rw [h, e] at z
    cases z
  · cases h0 : H b with
    | none => exact lv b hb h0
    | some u => rw [k b u (by simpa using h) h0] at z; cases z
theorem better_yes {x y : Int × Path} (h : wayLt x y = true) : better x (some y) = some x := if_pos h
theorem better_no {x y : Int × Path} (h : wayLt x y = false) : better x (some y) = some y := if_neg (by rw [h]; exact Bool.false_ne_true)
def spBlock : Sp := fun vs H Q _ => ∃ (od : Addr) (v : V) (e : Ent) (o : Str → Way) (n : Nat) (ex : List Addr), vs = [.ref od, v] ∧ Rp ex H e.data v ∧ e.isW = true ∧ e.ws.Nodup ∧ e.ws.length ≤ 3 ∧ od ∈ ex ∧ Live ex H ∧ OnAt ex od o n H ∧ n ≤ 100000 ∧ ∀ H', Kp [od] H H' → OnAt ex od (blocked e o) (n + 3) H' → Q .non H'
def spRead : Sp := fun vs H Q _ => ∃ (od : Addr) (v wv : V) (e : Ent) (x : Int × Path) (o : Str → Way) (n : Nat) (ex : List Addr), vs = [.ref od, v, wv] ∧ Rp ex H e.data v ∧ Rp ex H (someD x) wv ∧ x.2.length ≤ 1000 ∧ e.rs.Nodup ∧ e.rs.length ≤ 3 ∧ od ∈ ex ∧ Live ex H ∧ OnAt ex od o n H ∧ n ≤ 100000 ∧
  ∀ H', Kp [od] H H' → OnAt ex od (readers e (some x) o) (n + 3) H' → Q .non H'
section
variable {P : Program} {w : World} {K : PySem.W.Frag} {mg : Str → Option Value} {base : Heap}
theorem ok_addblocker (DAddBlocker : Fn K mg "add_blocker" sAddBlocker ["onward", "entry"]) (DWayOnward : Fn K mg "way_onward" sWayOnward ["onward", "cell"]) (g1 : ∃ u, mg "WRITES" = some u ∧ L2.RelV (.int 3) u) (g2 : ∃ u, mg "PRICE" = some u ∧ L2.RelV (.int 4) u)
    (GWayOnward : FnOk P w K mg base CX0 1 DWayOnward.f DWayOnward.fd ["onward", "cell"] spOnward) : FnOk P w K mg base CX0 2 DAddBlocker.f DAddBlocker.fd ["onward", "entry"] spBlock := by
  refine DAddBlocker.F.ok scAddBlocker (fun vs H Q E h => ?_) (fun cdv A outer s H vs Q E hr h => ?_)
  · obtain ⟨od, v, e, o, n, ex, rfl, _⟩ := h
    rfl
  obtain ⟨od, v, e, o, n, ex, rfl, rv, hw, nd, h3, hod, lv, on, hn, q⟩ := h
  have hu := hu_of hr
  have line : (100003 : Nat) < sizeLine := by decide
  refine ⟨_, pss_one (ps_for PassesOwn.never rfl (piTupE K (pe_ix (ixtE K) (pv 1) (pe_gc (v := .int 3) rfl g1) (fun _ _ => rfl))) (pg_name (i := 2) scAddBlocker.nd rfl (.inl rfl))
      (pss_cons (ps_set (i := 3) scAddBlocker.nd rfl (.inl rfl) (pe_fn DWayOnward GWayOnward hr (pa_cons (pv 0) (pa_cons (pv 2) pa_nil))))
      (pss_one (ps_if (PW.pt (pw_or (pt_cmpR op_isN (pv 3) pe_non (nomark _)) (pw_or1 (pt_cmpR op_isN (pe_ix (ixtE K) (pv 1) (pe_gc (v := .int 4) rfl g2) (fun _ _ => rfl)) pe_non (nomark _)))))
      (pss_one (ps_dput hu (pv 0) (pv 2) pe_non rfl))
      (pss_one (ps_dput hu (pv 0) (pv 2) (pe_tup (pa_cons (pe_op op_add (pe_ix (ixtE K) (pv 3) pe_int (fun _ _ => rfl)) (pe_ix (ixtE K) (pv 1) (pe_gc (v := .int 4) rfl g2) (fun _ _ => rfl))) (pa_cons (pe_ix (ixtE K) (pv 3) pe_int (fun _ _ => rfl)) pa_nil))) rfl)))))), ?_⟩
  obtain ⟨ds, ed, e3, e4⟩ := ent_writes hw
  refine ⟨_, rfl, c_of (ent_ix rv ed e3 rfl fun u ru => ?_)⟩
  obtain ⟨wa, cs, rfl, nwa, hwa, hcs⟩ := ru
  obtain rfl := strs_of hcs
  have nw : wa ≠ od := fun z => nwa (by rw [z]; exact hod)
  refine ⟨wa, rfl, ⟨_, .inl (.inl hwa)⟩, for_tup (K := K) (a := wa) (xs := e.ws.map V.str) (fun j σ H' => ∃ c4 w4 : Option V, σ = [some (.ref od), some v, c4, w4] ∧ Kp [od] H H' ∧ OnAt ex od (fun c => if c ∈ e.ws.take j then past e.pr (o c) else o c) (n + j) H')
    ⟨none, none, rfl, Kp.refl, on.same fun c => by simp⟩ (fun j σ H' hj ⟨_, _, _, k, _⟩ => .inl (.inl (k _ _ (by simpa using nw) hwa))) ?_ ?_⟩
  · rintro j x σ H' hx ⟨c4, w4, rfl, k, onj⟩
    obtain ⟨c, hc, rfl⟩ : ∃ c, e.ws[j]? = some c ∧ V.str c = x := by
      rw [List.getElem?_map] at hx
      cases hcj : e.ws[j]? with
      | none => rw [hcj] at hx; cases hx
      | some c => rw [hcj] at hx; exact ⟨c, rfl, Option.some.inj hx⟩
    have hj : j < e.ws.length := (List.getElem?_eq_some_iff.mp hc).1
    have lvj : Live ex H' := onj.live lv k
    have hnot : (if c ∈ e.ws.take j then past e.pr (o c) else o c) = o c := if_neg (nodup_take nd hc)
    -- what the store makes of it
    have step : ∀ {H2 H3 : Hp}, Kp [] H' H2 → Kp [od] H2 H3 → OnAt ex od (fun d => if d = c then past e.pr (o c) else if d ∈ e.ws.take j then past e.pr (o d) else o d) (n + j + 1) H3 → Kp [od] H H3 ∧ OnAt ex od (fun c => if c ∈ e.ws.take (j + 1) then past e.pr (o c) else o c) (n + (j + 1)) H3 := fun k2 k3 on3 => by
      refine ⟨(k.trans (k2.mono (by simp))).trans k3, on3.same fun d => ?_⟩
      rw [List.take_add_one, hc]
      by_cases hd : d = c
      · rw [if_pos hd, if_pos (by rw [hd]; simp), hd]
      · rw [if_neg hd]
        by_cases hm : d ∈ e.ws.take j
        · rw [if_pos hm, if_pos (List.mem_append_left _ hm)]
        · rw [if_neg hm, if_neg (fun z => (List.mem_append.mp z).elim hm (fun y => hd (by simpa using y)))]
    refine ⟨_, rfl, _, rfl, od, c, _, n + j, ex, rfl, lvj, onj, fun u H2 k2 ru => ?_⟩
    rw [hnot] at ru
    have on2 := onj.keep k2
    have rv2 : Rp ex H2 e.data v := Rp.keep ((k.mono (by simpa using hod)).trans (k2.mono (by simp))) _ _ rv
    refine ⟨_, rfl, rfl, _, rfl, ?_⟩
    cases ho : o c with
    | none =>
      rw [ho] at ru
      obtain rfl : u = .non := ru
      refine iteT ?_
      obtain ⟨H3, dp, k3, on3⟩ := on2.put hod c (w := none) (v := .non) rfl (by omega)
      refine ⟨_, rfl, _, rfl, od, _, rfl, dp, ?_⟩
      obtain ⟨k4, on4⟩ := step k2 k3 (on3.same fun d => by rw [ho]; rfl)
      exact ⟨_, _, rfl, k4, on4⟩
    | some y =>
      rw [ho] at ru
      have nx : u ≠ .non := by
        obtain ⟨a, xs, rfl, _⟩ := ru
        exact fun z => by cases z
      rw [decide_eq_false nx]
      refine iteF ⟨_, rfl, c_of (ent_ix rv2 ed e4 rfl fun pv1 rp => ?_)⟩
      refine ⟨rfl, _, rfl, ?_⟩
      cases hp : e.pr with
      | none =>
        rw [hp] at rp
        obtain rfl : pv1 = .non := rp
        refine iteT ?_
        obtain ⟨H3, dp, k3, on3⟩ := on2.put hod c (w := none) (v := .non) rfl (by omega)
        refine ⟨_, rfl, _, rfl, od, _, rfl, dp, ?_⟩
        obtain ⟨k4, on4⟩ := step k2 k3 (on3.same fun d => by rw [ho, hp]; rfl)
        rw [hp] at on4
        exact ⟨_, _, rfl, k4, on4⟩
      | some i =>
        rw [hp] at rp
        obtain rfl : pv1 = .int i := rp
        refine iteF ?_
        have ru' : Rp ex H2 (.tuple [.int y.1, pathD y.2]) u := ru
        obtain ⟨ua, us, rfl, nua, hua, hus⟩ := ru'
        refine ⟨_, rfl, c_of (ixD (j := 0) rfl hua hus rfl fun k0 r0 => ?_)⟩
        obtain rfl : k0 = .int y.1 := r0
        refine ⟨_, rfl, c_of (ent_ix rv2 ed e4 rfl fun k1 r1 => ?_)⟩
        rw [hp] at r1
        obtain rfl : k1 = .int i := r1
        refine ⟨y.1, i, rfl, rfl, _, rfl, c_of (ixD (j := 1) rfl hua hus rfl fun k2' r2 => ⟨(by show 2 ≤ sizeLine; decide), fun t nt => ?_⟩)⟩
        have kt : Kp [] H2 (upd H2 t (.tup [.int (y.1 + i), k2'])) := Kp.laid nt
        have lv2 : Live ex H2 := lvj.kp0 k2
        have rt : Rp ex (upd H2 t (.tup [.int (y.1 + i), k2'])) (wayD (some (y.1 + i, y.2))) (.ref t) := rp_new (lv2.fresh nt) nt ⟨_, _, rfl, rfl, RpAll.one r2⟩
        obtain ⟨H3, dp, k3, on3⟩ := (on2.keep kt).put hod c rt (by omega)
        refine ⟨_, rfl, _, rfl, od, _, rfl, dp, ?_⟩
        obtain ⟨k4, on4⟩ := step (k2.trans kt) k3 (on3.same fun d => by rw [ho, hp]; rfl)
        rw [hp] at on4
        exact ⟨_, _, rfl, k4, on4⟩
  · rintro σ H' ⟨c4, w4, rfl, k, onj⟩
    rw [List.length_map] at onj
    refine q H' k ((onj.more (by omega)).same fun c => ?_)
    rw [List.take_length]
    rfl
theorem ok_addreader (DAddReader : Fn K mg "add_reader" sAddReader ["onward", "entry", "way"]) (DWayOnward : Fn K mg "way_onward" sWayOnward ["onward", "cell"]) (g1 : ∃ u, mg "READS" = some u ∧ L2.RelV (.int 2) u) (g2 : ∃ u, mg "ID" = some u ∧ L2.RelV (.int 1) u)
    (GWayOnward : FnOk P w K mg base CX0 1 DWayOnward.f DWayOnward.fd ["onward", "cell"] spOnward) : FnOk P w K mg base CX0 2 DAddReader.f DAddReader.fd ["onward", "entry", "way"] spRead := by
  refine DAddReader.F.ok scAddReader (fun vs H Q E h => ?_) (fun cdv A outer s H vs Q E hr h => ?_)
  · obtain ⟨od, v, wv, e, x, o, n, ex, rfl, _⟩ := h
    rfl
  obtain ⟨od, v, wv, e, x, o, n, ex, rfl, rv, rw_, hlen, nd, h3, hod, lv, on, hn, q⟩ := h
  have hu := hu_of hr
  have line : (100003 : Nat) < sizeLine := by decide
  refine ⟨_, pss_cons (ps_asg (pv 2) (pg_tup (by rfl) (pgs_cons (pg_name (i := 4) scAddReader.nd rfl (.inl rfl)) (pgs_cons (pg_name (i := 5) scAddReader.nd rfl (.inl rfl)) pgs_nil))))
      (pss_one (ps_for PassesOwn.never rfl (piTupE K (pe_ix (ixtE K) (pv 1) (pe_gc (v := .int 2) rfl g1) (fun _ _ => rfl))) (pg_name (i := 3) scAddReader.nd rfl (.inl rfl))
      (pss_cons (ps_set (i := 6) scAddReader.nd rfl (.inl rfl) (pe_fn DWayOnward GWayOnward hr (pa_cons (pv 0) (pa_cons (pv 3) pa_nil))))
      (pss_cons (ps_set (i := 7) scAddReader.nd rfl (.inl rfl) (pe_tup (pa_cons (pv 4) (pa_cons (pe_op op_catA (pe_tup (pa_cons (pe_tup (pa_cons (pe_ix (ixtE K) (pv 1) (pe_gc (v := .int 1) rfl g2) (fun _ _ => rfl)) (pa_cons (pv 3) pa_nil))) pa_nil)) (pv 5)) pa_nil))))
      (pss_one (ps_if (PW.pt (pw_or (pt_cmpR op_isN (pv 6) pe_non (nomark _)) (pw_or1 (pt_cmpR (op_ltWay hr.units) (pv 7) (pv 6) (nomark _)))))
      (pss_one (ps_dput hu (pv 0) (pv 3) (pv 7) rfl))
      pss_nil)))))), ?_⟩
  obtain ⟨k, p⟩ := x
  have hlen : p.length ≤ 1000 := hlen
  have rw0 : Rp ex H (.tuple [.int k, pathD p]) wv := rw_
  obtain ⟨wa, ws, rfl, nwa, hwa, hws⟩ := rw0
  obtain ⟨v0, t0, rfl, r0, vp, t1, rfl, rp, rfl⟩ := hws
  obtain rfl : v0 = .int k := r0
  refine ⟨_, rfl, wa, [.int k, vp], rfl, .inl (.inl hwa), rfl, _, _, rfl, _, _, rfl, rfl, ?_⟩
  obtain ⟨ds, ed, e1, e2⟩ := ent_reads e
  refine ⟨_, rfl, c_of (ent_ix rv ed e2 rfl fun u ru => ?_)⟩
  obtain ⟨ra, cs, rfl, nra, hra, hcs⟩ := ru
  obtain rfl := strs_of hcs
  have nr : ra ≠ od := fun z => nra (by rw [z]; exact hod)
  refine ⟨ra, rfl, ⟨_, .inl (.inl hra)⟩, for_tup (K := K) (a := ra) (xs := e.rs.map V.str) (fun j σ H' => ∃ c3 c6 c7 : Option V, σ = [some (.ref od), some v, some (.ref wa), c3, some (.int k), some vp, c6, c7] ∧ Kp [od] H H' ∧ OnAt ex od (fun c => if c ∈ e.rs.take j then better (k, (e.id, c) :: p) (o c) else o c) (n + j) H')
    ⟨none, none, none, rfl, Kp.refl, on.same fun c => by simp⟩ (fun j σ H' hj ⟨_, _, _, _, k, _⟩ => .inl (.inl (k _ _ (by simpa using nr) hra))) ?_ ?_⟩
  · rintro j y σ H' hx ⟨c3, c6, c7, rfl, kj, onj⟩
    obtain ⟨c, hc, rfl⟩ : ∃ c, e.rs[j]? = some c ∧ V.str c = y := by
      rw [List.getElem?_map] at hx
      cases hcj : e.rs[j]? with
      | none => rw [hcj] at hx; cases hx
      | some c => rw [hcj] at hx; exact ⟨c, rfl, Option.some.inj hx⟩
    have hj : j < e.rs.length := (List.getElem?_eq_some_iff.mp hc).1
    have lvj : Live ex H' := onj.live lv kj
    have hnot : (if c ∈ e.rs.take j then better (k, (e.id, c) :: p) (o c) else o c) = o c := if_neg (nodup_take nd hc)
    have join : ∀ d, (if d = c then better (k, (e.id, c) :: p) (o c) else if d ∈ e.rs.take j then better (k, (e.id, d) :: p) (o d) else o d) = if d ∈ e.rs.take (j + 1) then better (k, (e.id, d) :: p) (o d) else o d := fun d => by
      rw [List.take_add_one, hc]
      by_cases hd : d = c
      · rw [if_pos hd, if_pos (by rw [hd]; simp), hd]
      · rw [if_neg hd]
        by_cases hm : d ∈ e.rs.take j
        · rw [if_pos hm, if_pos (List.mem_append_left _ hm)]
        · rw [if_neg hm, if_neg (fun z => (List.mem_append.mp z).elim hm (fun y => hd (by simpa using y)))]
    refine ⟨_, rfl, _, rfl, od, c, _, n + j, ex, rfl, lvj, onj, fun u H2 k2 ru => ?_⟩
    rw [hnot] at ru
    have kH2 : Kp ex H H2 := (kj.mono (by simpa using hod)).trans (k2.mono (by simp))
    have rv2 : Rp ex H2 e.data v := Rp.keep kH2 _ _ rv
    have lv2 := lvj.kp0 k2
    refine ⟨_, rfl, _, rfl, c_of (ent_ix rv2 ed e1 rfl fun vi ri => ?_)⟩
    obtain rfl : vi = .str e.id := ri
    refine ⟨_, rfl, (by show 2 ≤ sizeLine; decide), fun p1 n1 => ⟨(by show 1 ≤ sizeLine; decide), fun p2 n2 => ⟨_, rfl, ?_⟩⟩⟩
    have k3 : Kp [] H2 (upd H2 p1 (.tup [.str e.id, .str c])) := Kp.laid n1
    have k4 : Kp [] (upd H2 p1 (.tup [.str e.id, .str c])) (upd (upd H2 p1 (.tup [.str e.id, .str c])) p2 (.tup [.ref p1])) := Kp.laid n2
    have f1 := lv2.fresh n1
    have lv3 := lv2.kp0 k3
    have f2 := lv3.fresh n2
    have lv4 := lv3.kp0 k4
    have rs1 : Rp ex (upd H2 p1 (.tup [.str e.id, .str c])) (stepD (e.id, c)) (.ref p1) := rp_new f1 n1 ⟨_, _, rfl, rfl, RpAll.one rfl⟩
    have h2 : (upd (upd H2 p1 (.tup [.str e.id, .str c])) p2 (.tup [.ref p1])) p2 = some (.tup [.ref p1]) := upd_same
    have rs2 := Rp.keep (k4.mono (ex' := ex) (by simp)) _ _ rs1
    generalize (upd (upd H2 p1 (.tup [.str e.id, .str c])) p2 (.tup [.ref p1])) = H4 at k4 lv4 h2 rs2 ⊢
    have k24 := k3.trans k4
    have rp4 : Rp ex H4 (pathD p) vp := Rp.keep (kH2.trans (k24.mono (by simp))) _ _ rp
    obtain ⟨pa, ps, rfl, npa, hpa, hps⟩ := id rp4
    have hpl : ps.length = p.length := by rw [← hps.length, List.length_map]
    refine catA (ex := ex) h2 hpa f2 npa (fun b hb => lv4.fresh hb) (by show 1 + ps.length ≤ sizeLine; omega) fun r H5 k5 hr5 nr5 => ?_
    refine ⟨(by show 2 ≤ sizeLine; decide), fun t nt => ?_⟩
    have lv5 := lv4.kp0 k5
    have rr : Rp ex H5 (pathD ((e.id, c) :: p)) (.ref r) := ⟨r, _, rfl, nr5, hr5, RpAll.app (RpAll.one (Rp.keep (k5.mono (by simp)) _ _ rs2)) (RpAll.keep (k5.mono (by simp)) _ _ hps)⟩
    have k6 : Kp [] H5 (upd H5 t (.tup [.int k, .ref r])) := Kp.laid nt
    have rt : Rp ex (upd H5 t (.tup [.int k, .ref r])) (someD (k, (e.id, c) :: p)) (.ref t) := rp_new (lv5.fresh nt) nt ⟨_, _, rfl, rfl, RpAll.one rr⟩
    generalize upd H5 t (.tup [.int k, .ref r]) = H6 at k6 rt ⊢
    have k26 : Kp [] H2 H6 := (k24.trans k5).trans k6
    have on6 := (onj.keep k2).keep k26
    have ru6 := Rp.keep (k26.mono (ex' := ex) (by simp)) _ _ ru
    have k06 : Kp [od] H H6 := (kj.trans (k2.mono (by simp))).trans (k26.mono (by simp))
    have fin : ∀ {H7 : Hp}, Kp [od] H6 H7 → OnAt ex od (fun d => if d = c then better (k, (e.id, c) :: p) (o c) else if d ∈ e.rs.take j then better (k, (e.id, d) :: p) (o d) else o d) (n + j + 1) H7 → Kp [od] H H7 ∧ OnAt ex od (fun d => if d ∈ e.rs.take (j + 1) then better (k, (e.id, d) :: p) (o d) else o d) (n + (j + 1)) H7 := fun k7 on7 => ⟨k06.trans k7, on7.same join⟩
    refine ⟨_, rfl, rfl, _, rfl, ?_⟩
    cases ho : o c with
    | none =>
      rw [ho] at ru6
      obtain rfl : u = .non := ru6
      refine iteT ?_
      obtain ⟨H7, dp, k7, on7⟩ := on6.put hod c (w := some (k, (e.id, c) :: p)) rt (by omega)
      refine ⟨_, rfl, _, rfl, _, rfl, od, _, rfl, dp, ?_⟩
      obtain ⟨k8, on8⟩ := fin k7 (on7.same fun d => by rw [ho]; rfl)
      exact ⟨_, _, _, rfl, k8, on8⟩
    | some z =>
      rw [ho] at ru6
      have nx : u ≠ .non := by
        obtain ⟨a, xs, rfl, _⟩ := ru6
        exact fun z => by cases z
      rw [decide_eq_false nx]
      refine iteF ⟨_, rfl, _, rfl, (k, (e.id, c) :: p), z, ex, rt, ru6, _, rfl, ?_⟩
      cases hl : wayLt (k, (e.id, c) :: p) z with
      | true =>
        refine iteT ?_
        obtain ⟨H7, dp, k7, on7⟩ := on6.put hod c (w := some (k, (e.id, c) :: p)) rt (by omega)
        refine ⟨_, rfl, _, rfl, _, rfl, od, _, rfl, dp, ?_⟩
        obtain ⟨k8, on8⟩ := fin k7 (on7.same fun d => by rw [ho, better_yes hl])
        exact ⟨_, _, _, rfl, k8, on8⟩
      | false =>
        refine iteF ?_
        obtain ⟨k8, on8⟩ := fin Kp.refl ((on6.more (Nat.le_succ _)).same fun d => by
          rw [ho, better_no hl]
          by_cases hd : d = c
          · rw [if_pos hd, hd, if_neg (nodup_take nd hc), ho]
          · rw [if_neg hd])
        exact ⟨_, _, _, rfl, k8, on8⟩
  · rintro σ H' ⟨c3, c6, c7, rfl, kj, onj⟩
    rw [List.length_map] at onj
    refine q H' kj ((onj.more (by omega)).same fun c => ?_)
    rw [List.take_length]
    rfl
end
end NV
/-! W7 -/
set_option Elab.async false
set_option linter.all false
set_option maxRecDepth 100000
set_option maxHeartbeats 1000000
/-! the package's cheapest_ways, without labels -/
namespace NV
open PySem PySem.Spec PyProof.Rows L2
open C8 (pss_cut pe_gc)
/-! ### paths are no longer than the log -/
def Short (m : Nat) (w : Way) : Prop := ∀ x, w = some x → x.2.length ≤ m
theorem short_min {m : Nat} {l : List (Int × Path)} (h : ∀ x ∈ l, x.2.length ≤ m) : Short m (minW l) := by
  intro x e
  by_cases hl : l = []
  · rw [(minW_iff l).1 hl] at e; cases e
  · obtain ⟨y, hy, hm, _⟩ := (minW_iff l).2 hl
    rw [hy] at e
    cases e
    exact h _ hm
theorem short_from {m : Nat} {o : Str → Way} {cs : List Str} (h : ∀ c, Short m (o c)) : Short m (wayFrom o cs) := short_min fun x hx => by
  obtain ⟨c, _, e⟩ := List.mem_filterMap.mp hx
  exact h c x e
theorem short_past {m : Nat} {pr : Option Int} {w : Way} (h : Short m w) : Short m (past pr w) := by
  intro x e
  match w, pr, h, e with
  | some (k, p), some i, h, e =>
    cases e
    exact h (k, p) rfl
theorem short_better {m : Nat} {x : Int × Path} {w : Way} (hx : x.2.length ≤ m) (h : Short m w) : Short m (better x w) := by
  intro y e
  cases w with
  | none => cases e; exact hx
  | some z =>
    cases hl : wayLt x z with
    | true => rw [better_yes hl] at e; cases e; exact hx
    | false => rw [better_no hl] at e; exact h y e
theorem Short.up {m n : Nat} {w : Way} (h : Short m w) (l : m ≤ n) : Short n w := fun x e => Nat.le_trans (h x e) l
theorem short_reads {m : Nat} {e : Ent} {w : Way} {o : Str → Way} (hw : Short m w) (h : ∀ c, Short m (o c)) : ∀ c, Short (m + 1) (readers e w o c) := by
  intro c
  unfold readers
  by_cases hc : c ∈ e.rs
  · rw [if_pos hc]
    match w, hw with
    | none, _ => exact (h c).up (Nat.le_succ _)
    | some (k, p), hw => exact short_better (by have h1 : p.length ≤ m := hw (k, p) rfl; show p.length + 1 ≤ m + 1; omega) ((h c).up (Nat.le_succ _))
  · rw [if_neg hc]
    exact (h c).up (Nat.le_succ _)
theorem short_on : ∀ (es : List Ent) (c : Str), Short (es.length + 1) (onB es c)
  | [], c => fun x e => by cases e; exact Nat.le_refl _
  | .wr id rs ws pr :: es, c => by
    refine short_reads (short_from (short_on es)) (fun d => ?_) c
    unfold blocked
    split
    · exact short_past (short_on es d)
    · exact short_on es d
  | .qu id cs :: es, c => short_reads (w := some (0, [])) (fun x e => by cases e; exact Nat.zero_le _) (short_on es) c
/-! ### the dict of ways -/
structure WaysAt (ex : List Addr) (wd : Addr) (ws : List (Str × Way)) (H : Hp) : Prop where
  at_ : ∃ kvs : List (Key × V), H wd = some (.dK kvs) ∧ kvs.map (·.1) = ws.map (fun x => (Sum.inr x.1 : Key)) ∧ RpAll ex H (ws.map fun x => wayD x.2) (kvs.map (·.2))
theorem WaysAt.keep {ex : List Addr} {wd : Addr} {ws : List (Str × Way)} {H H' : Hp} (h : WaysAt ex wd ws H) (k : Kp [] H H') : WaysAt ex wd ws H' := by
  obtain ⟨kvs, e, n, r⟩ := h
  exact ⟨kvs, k _ _ (by simp) e, n, RpAll.keep (k.mono (by simp)) _ _ r⟩
theorem WaysAt.off {ex : List Addr} {wd od : Addr} {ws : List (Str × Way)} {H H' : Hp} (h : WaysAt ex wd ws H) (ho : od ∈ ex) (hn : wd ≠ od) (k : Kp [od] H H') : WaysAt ex wd ws H' := by
  obtain ⟨kvs, e, n, r⟩ := h
  exact ⟨kvs, k _ _ (by simpa using hn) e, n, RpAll.keep (k.mono (by simpa using ho)) _ _ r⟩
theorem val_none : ∀ {kvs : List (Key × V)} {k : Key}, k ∉ kvs.map (·.1) → valV kvs k = none
  | [], _, _ => rfl
  | p :: kvs, k, h => by
    rw [List.map_cons] at h
    rw [valV_neg (fun e => h (by rw [e]; exact List.mem_cons_self))]
    exact val_none fun z => h (List.mem_cons_of_mem _ z)
theorem WaysAt.put {ex : List Addr} {wd : Addr} {ws : List (Str × Way)} {H : Hp} (h : WaysAt ex wd ws H) (hw : wd ∈ ex) {id : Str} {w : Way} {v : V} (hid : id ∉ ws.map (·.1)) (hl : ws.length < sizeLine) (rv : Rp ex H (wayD w) v) :
    ∃ H', DPut H wd (.str id) v H' ∧ Kp [wd] H H' ∧ WaysAt ex wd (ws ++ [(id, w)]) H' := by
  obtain ⟨kvs, e, n, r⟩ := h
  have kp : Kp ex H (upd H wd (.dK (putK kvs (Sum.inr id : Key) v))) := Kp.put hw
  have nk : valV kvs (Sum.inr id : Key) = none := val_none (by
    rw [n]
    intro z
    obtain ⟨x, hx, e⟩ := List.mem_map.mp z
    exact hid (List.mem_map.mpr ⟨x, hx, Sum.inr.inj e⟩))
  have hk : kvs.length = ws.length := by
    have := congrArg List.length n
    simpa using this
  refine ⟨_, DPut.k (k := (Sum.inr id : Key)) e (by omega), Kp.put (by simp), _, upd_same, ?_, ?_⟩
  · rw [putK_new _ nk, List.map_append, List.map_append, n]
    rfl
  · have r2 := RpAll.app (RpAll.keep kp _ _ r) (RpAll.one (Rp.keep kp _ _ rv))
    rw [putK_new _ nk] at r2 ⊢
    rw [List.map_append, List.map_append]
    exact r2
theorem OnAt.off {ex : List Addr} {od wd : Addr} {o : Str → Way} {n : Nat} {H H' : Hp} (h : OnAt ex od o n H) (hw : wd ∈ ex) (hn : od ≠ wd) (k : Kp [wd] H H') : OnAt ex od o n H' := by
  obtain ⟨kvs, e, l, q⟩ := h
  refine ⟨kvs, k _ _ (by simpa using hn) e, l, fun c => ?_⟩
  have := q c
  cases hv : valV kvs (Sum.inr c : Key) with
  | none => rw [hv] at this; exact this
  | some v => rw [hv] at this; exact Rp.keep (k.mono (by simpa using hw)) _ _ this
theorem WaysAt.live {ex : List Addr} {wd : Addr} {ws : List (Str × Way)} {H H' : Hp} (h : WaysAt ex wd ws H') (lv : Live ex H) (k : Kp [wd] H H') : Live ex H' := fun b hb z => by
  by_cases hbw : b = wd
  · obtain ⟨kvs, e, _⟩ := h.at_
    rw [hbw, e] at z
    cases z
  · cases h0 : H b with
    | none => exact lv b hb h0
    | some u => rw [k b u (by simpa using hbw) h0] at z; cases z
theorem onB_w {e : Ent} {rest : List Ent} (h : e.isW = true) : onB (e :: rest) = readers e (wayFrom (onB rest) e.ws) (blocked e (onB rest)) := by
  cases e with
  | wr id rs ws pr => rfl
  | qu id cs => cases h
theorem onB_q {e : Ent} {rest : List Ent} (h : e.isW = false) : onB (e :: rest) = readers e (some (0, [])) (onB rest) := by
  cases e with
  | wr id rs ws pr => cases h
  | qu id cs => rfl
abbrev sGoBack : Stmt := topS 43
theorem scGoBack : FnScope ["onward", "entry", "labels", "way", "reading"] ["onward", "entry", "labels"] (defScope sGoBack) := ⟨rfl, rfl, rfl, by decide +kernel, rfl, by decide +kernel, by decide +kernel⟩
abbrev sCheapestWays : Stmt := topS 44
theorem scCheapestWays : FnScope ["log", "labels", "onward", "ways", "entry", "way"] ["log", "labels"] (defScope sCheapestWays) := ⟨rfl, rfl, rfl, by decide +kernel, rfl, by decide +kernel, by decide +kernel⟩
/-- a def of the top with defaults -/
structure FnD (K : PySem.W.Frag) (mg : Str → Option Value) (nm : Str) (st : Stmt) (ps : List Str) (dvs : List V) : Type where
  f : Addr
  fd : FuncData
  F : FunD K nm nm (defArgs st) (defBody st) (defScope st) dvs [] f fd
  m : mg nm = some (.ref f)
  ds : List Value
  vs : Vals dvs ds
  b : Binds K fd ps ds
  bf : Binds K fd ps []
section
variable {P : Program} {w : World} {K : PySem.W.Frag} {mg : Str → Option Value} {base : Heap}
theorem okD {x qual : Str} {st : Stmt} {dvs : List V} {kws : List (Str × V)} {f : Addr} {fd : FuncData} {N ps : List Str} {k : Nat} {sp : Sp} (F : FunD K x qual (defArgs st) (defBody st) (defScope st) dvs kws f fd) (S : FnScope N ps (defScope st)) (len : ∀ vs H Q E, sp vs H Q E → vs.length = ps.length)
    (hbody : ∀ (cdv : Value) (A : Around) (outer : List Env) (s : Shared) (H : Hp) (vs : List V) (Q : VK) (E : XK), Room k (A.deeper (envOfC qual (defScope st) s.heap.objs.size f cdv)) → sp vs H Q E →
      ∃ t, PSs (cxOf CX0 P w K mg base N qual (defScope st) f cdv A outer s H E).nox (defBody st) t ∧ t { nx := fun _ H' => Q .non H', rt := Q } (start N vs) H) : FnOk P w K mg base CX0 (k + 1) f fd ps sp := by
  obtain ⟨oc, od, dV, kV, doc, pm, an, cdv, ct, osl, rfl, lk, hcd, _, _⟩ := F.ex
  refine fn_of lk hcd S len fun A outer s H vs Q E hr hsp => ?_
  obtain ⟨t, h, q⟩ := hbody cdv A outer s H vs Q E hr hsp
  exact ⟨t, h.nox, q⟩
end
section
variable {X : Cx} {nm : Str} {st : Stmt} {ps : List Str} {dvs : List V} {sp : Sp} {e : Expr} {es : List Expr} {t : TA} {p pos : Pos} {j k : Nat}
theorem pe_fd (D : FnD X.K X.mg nm st ps dvs) (G : FnOk X.prog X.w X.K X.mg X.base CX0 j D.f D.fd ps sp) (hr : Room k X.A) (ha : PA X (e :: es) t)
    (hk : j ≤ k := by decide) (hg : Gl X nm := by rfl) (hdb : (nm == ("__debug__" : Str)) = false := by decide) (he : starEach (e :: es) X.env = (false, eval e X.env) :: starEach es X.env := by rfl) (hpl : (backTo pos (starEach es X.env)).any (·.1) = false := by rfl) :
    PE X (.Call (.Name nm p) (e :: es) [] pos) (tCall sp dvs (fun _ _ _ => False) t) := pe_call G (hr.mono hk) hg D.m D.F.kp D.b D.vs pass0 ha hdb he hpl
/-- every argument is written -/
theorem pe_ff (D : FnD X.K X.mg nm st ps dvs) (G : FnOk X.prog X.w X.K X.mg X.base CX0 j D.f D.fd ps sp) (hr : Room k X.A) (ha : PA X (e :: es) t)
    (hk : j ≤ k := by decide) (hg : Gl X nm := by rfl) (hdb : (nm == ("__debug__" : Str)) = false := by decide) (he : starEach (e :: es) X.env = (false, eval e X.env) :: starEach es X.env := by rfl) (hpl : (backTo pos (starEach es X.env)).any (·.1) = false := by rfl) :
    PE X (.Call (.Name nm p) (e :: es) [] pos) (tCall sp [] (fun _ _ _ => False) t) := pe_call G (hr.mono hk) hg D.m D.F.kp D.bf .nil pass0 ha hdb he hpl
end
def spWays : Sp := fun vs H Q _ => ∃ (v : V) (es : List Ent) (ex : List Addr), vs = [v, .non] ∧ Rp ex H (logD es) v ∧ (∀ e ∈ es, e.Ok) ∧ (es.map Ent.id).Nodup ∧ es.length ≤ 100 ∧ Live ex H ∧ ∀ wd H', Kp [] H H' → H wd = none → WaysAt ex wd (waysB es) H' → Q (.ref wd) H'
/-- the way from an entry -/
def wayGo (e : Ent) (o : Str → Way) : Way := if e.isW then wayFrom o e.ws else some (0, [])
theorem stepB_go (e : Ent) (o : Str → Way) : stepB e o = readers e (wayGo e o) (if e.isW then blocked e o else o) := by
  cases e with
  | wr id rs ws pr => rfl
  | qu id cs => rfl
def spGo : Sp := fun vs H Q _ => ∃ (od : Addr) (v : V) (e : Ent) (o : Str → Way) (n : Nat) (ex : List Addr), vs = [.ref od, v, .non] ∧ Rp ex H e.data v ∧ e.Ok ∧ od ∈ ex ∧ Live ex H ∧ OnAt ex od o n H ∧ n ≤ 99000 ∧ (∀ c, Short 999 (o c)) ∧
  ∀ u H', Kp [od] H H' → OnAt ex od (stepB e o) (n + 6) H' → Rp ex H' (wayD (wayGo e o)) u → Q u H'
section
variable {P : Program} {w : World} {K : PySem.W.Frag} {mg : Str → Option Value} {base : Heap}
theorem ok_goback (DGoBack : FnD K mg "go_back" sGoBack ["onward", "entry", "labels"] [.non]) (DWayFrom : Fn K mg "way_from" sWayFrom ["onward", "entry"]) (DAddBlocker : Fn K mg "add_blocker" sAddBlocker ["onward", "entry"]) (DAddReader : Fn K mg "add_reader" sAddReader ["onward", "entry", "way"])
    (g0 : ∃ u, mg "KIND" = some u ∧ L2.RelV (.int 0) u) (g1 : ∃ u, mg "ID" = some u ∧ L2.RelV (.int 1) u)
    (GWayFrom : FnOk P w K mg base CX0 2 DWayFrom.f DWayFrom.fd ["onward", "entry"] spFrom) (GAddBlocker : FnOk P w K mg base CX0 2 DAddBlocker.f DAddBlocker.fd ["onward", "entry"] spBlock) (GAddReader : FnOk P w K mg base CX0 2 DAddReader.f DAddReader.fd ["onward", "entry", "way"] spRead) :
    FnOk P w K mg base CX0 3 DGoBack.f DGoBack.fd ["onward", "entry", "labels"] spGo := by
  refine okD DGoBack.F scGoBack (fun vs H Q E h => ?_) (fun cdv A outer s H vs Q E hr h => ?_)
  · obtain ⟨od, v, e, o, n, ex, rfl, _⟩ := h
    rfl
  obtain ⟨od, v, e, o, n, ex, rfl, re, oke, hod, lv, on, hn, sh, q⟩ := h
  have hu := hu_of hr
  refine ⟨_, pss_cons (ps_asg2 (pe_tup (pa_cons pe_int (pa_cons (pe_tup pa_nil) pa_nil))) (pg_name (i := 3) scGoBack.nd rfl (.inl rfl)) (pg_name (i := 4) scGoBack.nd rfl (.inl rfl)))
      (pss_cons (ps_if (pt_cmpR op_eq (pe_ix (ixtE K) (pv 1) (pe_gc (v := .int 0) rfl g0) (fun _ _ => rfl)) pe_str (nomark _))
      (pss_cons (ps_asg2 (pe_fn DWayFrom GWayFrom hr (pa_cons (pv 0) (pa_cons (pv 1) pa_nil))) (pg_name (i := 3) scGoBack.nd rfl (.inl rfl)) (pg_name (i := 4) scGoBack.nd rfl (.inl rfl)))
      (pss_cons (ps_if (pt_cmpR op_notN (pv 2) pe_non (nomark _))
      (pss_one (ps_dead _))
      pss_nil)
      (pss_one (ps_expr (pe_fn DAddBlocker GAddBlocker hr (pa_cons (pv 0) (pa_cons (pv 1) pa_nil)))))))
      pss_nil)
      (pss_cons (ps_if (pt_cmpR op_notN (pv 4) pe_non (nomark _))
      (pss_one (ps_expr (pe_fn DAddReader GAddReader hr (pa_cons (pv 0) (pa_cons (pv 1) (pa_cons (pv 4) pa_nil))))))
      pss_nil)
      (pss_one (ps_ret (pv 3))))), ?_⟩
  refine ⟨(by show 0 ≤ sizeLine; decide), fun p0 n0 => ⟨(by show 2 ≤ sizeLine; decide), fun t nt => ?_⟩⟩
  have kp0 : Kp [] H (upd H p0 (.tup [])) := Kp.laid n0
  have kt : Kp [] (upd H p0 (.tup [])) (upd (upd H p0 (.tup [])) t (.tup [.int 0, .ref p0])) := Kp.laid nt
  have rp0 : Rp ex (upd H p0 (.tup [])) (pathD []) (.ref p0) := rp_new (lv.fresh n0) n0 rfl
  have rt : Rp ex (upd (upd H p0 (.tup [])) t (.tup [.int 0, .ref p0])) (someD (0, [])) (.ref t) := rp_new ((lv.kp0 kp0).fresh nt) nt ⟨_, _, rfl, rfl, RpAll.one rp0⟩
  generalize upd (upd H p0 (.tup [])) t (.tup [.int 0, .ref p0]) = H3 at kt rt ⊢
  have k3 := kp0.trans kt
  have lv3 := lv.kp0 k3
  have on3 := on.keep k3
  have re3 := Rp.keep (k3.mono (ex' := ex) (by simp)) _ _ re
  have k03 : Kp [od] H H3 := k3.mono (by simp)
  obtain ⟨d0, ed0, hd0⟩ := ent_kind e
  refine ⟨_, rfl, c_of (ent_ix re3 ed0 hd0 rfl fun vk rk => ?_)⟩
  obtain rfl : vk = .str (if e.isW then "write" else "query") := rk
  refine ⟨rfl, _, rfl, ?_⟩
  have hsb := stepB_go e o
  cases hw : e.isW with
  | true =>
    rw [show decide (V.str (if true = true then ("write" : Str) else "query") = V.str "write") = true from decide_eq_true rfl]
    rw [hw, if_pos rfl] at hsb
    have hgo : wayGo e o = wayFrom o e.ws := by unfold wayGo; rw [hw, if_pos rfl]
    rw [hgo] at hsb q
    refine iteT ⟨_, rfl, _, rfl, od, v, e, o, n, ex, rfl, re3, hw, oke.ws.2, lv3, on3, fun u H4 k4 ru => ?_⟩
    have re4 := Rp.keep (k4.mono (ex' := ex) (by simp)) _ _ re3
    refine ⟨_, rfl, rfl, _, rfl, iteF ?_⟩
    have lv4 := lv3.kp0 k4
    refine ⟨_, rfl, _, rfl, od, v, e, o, n, ex, rfl, re4, hw, oke.ws.1, oke.ws.2, hod, lv4, on3.keep k4, by omega, fun H6 k6 on6 => ?_⟩
    have k6' : Kp ex H4 H6 := k6.mono (by simpa using hod)
    have k06 : Kp [od] H H6 := (k03.trans (k4.mono (by simp))).trans k6
    have ru6 := Rp.keep k6' _ _ ru
    refine ⟨_, rfl, rfl, _, rfl, ?_⟩
    cases hy : wayFrom o e.ws with
    | none =>
      rw [hy] at ru6 hsb q
      obtain rfl : u = .non := ru6
      refine iteF ⟨_, rfl, q _ _ k06 ?_ rfl⟩
      rw [hsb]
      refine (on6.more (by omega)).same fun c => ?_
      unfold readers
      split <;> rfl
    | some y =>
      rw [hy] at ru6 hsb q
      have nx : u ≠ .non := by
        obtain ⟨a, xs, rfl, _⟩ := ru6
        exact fun z => by cases z
      rw [decide_eq_false nx]
      have re6 := Rp.keep k6' _ _ re4
      have sh' : y.2.length ≤ 1000 := by
        have := short_from (cs := e.ws) sh y hy
        omega
      refine iteT ⟨_, rfl, _, rfl, _, rfl, od, v, u, e, y, blocked e o, n + 3, ex, rfl, re6, ru6, sh', oke.rs.1, oke.rs.2, hod, on6.live lv4 k6, on6, by omega, fun H7 k7 on7 => ⟨_, rfl, q _ _ (k06.trans k7) ?_ (Rp.keep (k7.mono (by simpa using hod)) _ _ ru6)⟩⟩
      rw [hsb]
      exact on7.more (by omega)
  | false =>
    rw [show decide (V.str (if false = true then ("write" : Str) else "query") = V.str "write") = false from decide_eq_false (by intro h; exact absurd (V.str.inj h) (by decide))]
    rw [hw, if_neg Bool.false_ne_true] at hsb
    have hgo : wayGo e o = some (0, []) := by unfold wayGo; rw [hw, if_neg Bool.false_ne_true]
    rw [hgo] at hsb q
    refine iteF ⟨_, rfl, rfl, _, rfl, ?_⟩
    refine iteT ⟨_, rfl, _, rfl, _, rfl, od, v, .ref t, e, (0, []), o, n, ex, rfl, re3, rt, Nat.zero_le _, oke.rs.1, oke.rs.2, hod, lv3, on3, by omega, fun H7 k7 on7 => ⟨_, rfl, q _ _ (k03.trans k7) ?_ (Rp.keep (k7.mono (by simpa using hod)) _ _ rt)⟩⟩
    rw [hsb]
    exact on7.more (by omega)
theorem ok_ways (DCheapestWays : FnD K mg "cheapest_ways" sCheapestWays ["log", "labels"] [.non]) (DGoBack : FnD K mg "go_back" sGoBack ["onward", "entry", "labels"] [.non])
    (b_reversed : mg "reversed" = none) (g0 : ∃ u, mg "KIND" = some u ∧ L2.RelV (.int 0) u) (g1 : ∃ u, mg "ID" = some u ∧ L2.RelV (.int 1) u)
    (GGoBack : FnOk P w K mg base CX0 3 DGoBack.f DGoBack.fd ["onward", "entry", "labels"] spGo) :
    FnOk P w K mg base CX0 4 DCheapestWays.f DCheapestWays.fd ["log", "labels"] spWays := by
  refine okD DCheapestWays.F scCheapestWays (fun vs H Q E h => ?_) (fun cdv A outer s H vs Q E hr h => ?_)
  · obtain ⟨v, es, ex, rfl, _⟩ := h
    rfl
  obtain ⟨v, es, ex, rfl, rv, ok, nd, h100, lv, q⟩ := h
  have hu := hu_of hr
  have line : (100003 : Nat) < sizeLine := by decide
  refine ⟨_, pss_cons (ps_set (i := 2) scCheapestWays.nd rfl (.inl rfl) pe_dnewK)
      (pss_cons (ps_set (i := 3) scCheapestWays.nd rfl (.inl rfl) pe_dnewK)
      (pss_cons (ps_for PassesOwn.never rfl (RT.pi_revA (by rfl) b_reversed (pv 0)) (pg_name (i := 4) scCheapestWays.nd rfl (.inl rfl))
      (pss_cons (ps_set (i := 5) scCheapestWays.nd rfl (.inl rfl) (pe_ff DGoBack GGoBack hr (pa_cons (pv 2) (pa_cons (pv 4) (pa_cons (pv 1) pa_nil)))))
      (pss_one (ps_if (pt_cmpR op_eq (pe_ix (ixtE K) (pv 4) (pe_gc (v := .int 0) rfl g0) (fun _ _ => rfl)) pe_str (nomark _))
      (pss_one (ps_dput hu (pv 3) (pe_ix (ixtE K) (pv 4) (pe_gc (v := .int 1) rfl g1) (fun _ _ => rfl)) (pv 5) rfl))
      pss_nil))))
      (pss_one (ps_ret (pv 3))))), ?_⟩
  intro od nod
  have k0 : Kp [] H (upd H od (.dK [])) := Kp.laid nod
  have rv0 := Rp.keep (k0.mono (by simp)) _ _ (Rp.apart nod _ _ rv)
  have lv0 : Live (od :: ex) (upd H od (.dK [])) := fun b hb => by
    rcases List.mem_cons.mp hb with z | z
    · rw [z, upd_same]; exact fun q => by cases q
    · exact lv.kp0 k0 b z
  have ho0 : (upd H od (.dK [])) od = some (.dK []) := upd_same
  generalize upd H od (.dK []) = H0 at k0 rv0 lv0 ho0 ⊢
  intro wd nwd
  have k1 : Kp [] H0 (upd H0 wd (.dK [])) := Kp.laid nwd
  have rv1 := Rp.keep (k1.mono (by simp)) _ _ (Rp.apart nwd _ _ rv0)
  have lv1 : Live (wd :: od :: ex) (upd H0 wd (.dK [])) := fun b hb => by
    rcases List.mem_cons.mp hb with z | z
    · rw [z, upd_same]; exact fun q => by cases q
    · exact lv0.kp0 k1 b z
  have ho1 : (upd H0 wd (.dK [])) od = some (.dK []) := k1 _ _ (by simp) ho0
  have hw1 : (upd H0 wd (.dK [])) wd = some (.dK []) := upd_same
  have nwo : wd ≠ od := fun z => by rw [z, ho0] at nwd; cases nwd
  have hwd : H wd = none := by
    cases h : H wd with
    | none => rfl
    | some u => rw [k0 _ _ (by simp) h] at nwd; cases nwd
  have back : ∀ {H' : Hp}, Kp [od, wd] (upd H0 wd (.dK [])) H' → Kp [] H H' := fun k => by
    have a : Kp [od, wd] H _ := ((k0.trans k1).mono (by simp)).trans k
    exact Kp.drop (Kp.drop a nod) hwd
  obtain ⟨H1, e1⟩ : ∃ H1, upd H0 wd (.dK []) = H1 := ⟨_, rfl⟩
  rw [e1] at k1 rv1 lv1 ho1 hw1
  have back : ∀ {H' : Hp}, Kp [od, wd] H1 H' → Kp [] H H' := fun k => back (by rw [e1]; exact k)
  rw [e1]
  obtain ⟨a, xs, rfl, na, ha, hxs⟩ := rv1
  have hl : es.length = xs.length := by
    have := hxs.length
    rwa [List.length_map] at this
  have nao : a ≠ od := fun z => na (by rw [z]; simp)
  have naw : a ≠ wd := fun z => na (by rw [z]; simp)
  have atT : ∀ {H' : Hp}, Kp [od, wd] H1 H' → SqT K H' a xs := fun k => .inl (.inl (k _ _ (by simp [nao, naw]) ha))
  let Inv_ : Nat → L2.St → Hp → Prop := fun j σ H' => ∃ c4 c5 : Option V, σ = [some (.ref a), some .non, some (.ref od), some (.ref wd), c4, c5] ∧ Kp [od, wd] H1 H' ∧ OnAt (wd :: od :: ex) od (onB (es.drop (es.length - j))) (6 * j) H' ∧ WaysAt (wd :: od :: ex) wd (waysB (es.drop (es.length - j))) H'
  have start : Inv_ 0 [some (.ref a), some .non, some (.ref od), some (.ref wd), none, none] H1 := by
    refine ⟨none, none, rfl, Kp.refl, ⟨[], ho1, Nat.le_refl _, fun c => ?_⟩, ⟨[], hw1, ?_, ?_⟩⟩
    · rw [Nat.sub_zero, List.drop_length]; rfl
    · rw [Nat.sub_zero, List.drop_length]; rfl
    · rw [Nat.sub_zero, List.drop_length]; rfl
  refine ⟨_, rfl, a, xs, rfl, .inr ⟨.inl (.inl ha), ?_⟩⟩
  refine ⟨fun j m σ H' => m = xs.length - j ∧ j ≤ xs.length ∧ Inv_ j σ H', ⟨xs.length, by simp, Nat.zero_le _, start⟩, ?_⟩
  rintro j m σ H' ⟨rfl, hj, c4, c5, rfl, k, on, ws⟩
  rcases Nat.lt_or_ge j xs.length with lt | ge
  · have hix : xs.length - 1 - j < xs.length := by omega
    have hie : xs.length - 1 - j < es.length := by omega
    refine .inr ⟨⟨lt, xs, _, atT k, List.getElem?_eq_getElem hix⟩, Inv_ (j + 1), fun σ' H2 i => ⟨xs.length - (j + 1), by omega, rfl, by omega, i⟩, ?_⟩
    rintro x H2 ⟨rfl, hx⟩
    have hx := hx xs (atT k)
    obtain ⟨d, hd, rd⟩ := RpAll.back hxs hx
    obtain ⟨e, he, rfl⟩ : ∃ e, es[xs.length - 1 - j]? = some e ∧ e.data = d := by
      rw [List.getElem?_map] at hd
      cases h : es[xs.length - 1 - j]? with
      | none => rw [h] at hd; cases hd
      | some e => rw [h] at hd; exact ⟨e, rfl, Option.some.inj hd⟩
    have hmem := List.mem_of_getElem? he
    have oke := ok e hmem
    have hdrop : es.drop (es.length - (j + 1)) = e :: es.drop (es.length - j) := by
      have h1 : es.length - (j + 1) = xs.length - 1 - j := by omega
      have h2 : es.length - j = xs.length - 1 - j + 1 := by omega
      rw [h1, h2, List.drop_eq_getElem_cons hie]
      congr 1
      exact (List.getElem?_eq_some_iff.mp he).2
    generalize hrest : es.drop (es.length - j) = rest at on ws hdrop
    have hrl : rest.length ≤ 100 := by rw [← hrest, List.length_drop]; omega
    have ndr : ((e :: rest).map Ent.id).Nodup := by
      rw [← hdrop]
      exact nd.sublist (List.Sublist.map _ (List.drop_sublist _ _))
    have keep : ∀ {H3 : Hp}, Kp [od, wd] H1 H3 → Kp (wd :: od :: ex) H1 H3 := fun k => k.mono (by simp)
    have re : Rp (wd :: od :: ex) H2 e.data x := Rp.keep (keep k) _ _ rd
    have hod : od ∈ wd :: od :: ex := by simp
    have hwd' : wd ∈ wd :: od :: ex := by simp
    have lv2 : Live (wd :: od :: ex) H2 := fun b hb z => by
      by_cases hb1 : b = od
      · obtain ⟨kvs, ek, _⟩ := on.at_
        rw [hb1, ek] at z; cases z
      · by_cases hb2 : b = wd
        · obtain ⟨kvs, ek, _⟩ := ws.at_
          rw [hb2, ek] at z; cases z
        · cases h0 : H1 b with
          | none => exact lv1 b hb h0
          | some u => rw [k b u (by simp [hb1, hb2]) h0] at z; cases z
    have sh : ∀ c, Short 999 (onB rest c) := fun c => (short_on rest c).up (by omega)
    have hst : onB (e :: rest) = stepB e (onB rest) := rfl
    refine ⟨_, rfl, _, rfl, _, rfl, od, x, e, onB rest, 6 * j, wd :: od :: ex, rfl, re, oke, hod, lv2, on, by omega, sh, fun u H3 k3 on3 ru => ?_⟩
    have k13 : Kp [od, wd] H1 H3 := k.trans (k3.mono (by simp))
    have re3 := Rp.keep (k3.mono (ex' := wd :: od :: ex) (by simp)) _ _ re
    have ws3 := ws.off hod nwo k3
    obtain ⟨d0, ed0, hd0⟩ := ent_kind e
    obtain ⟨d1, ed1, hd1, _⟩ := ent_reads e
    refine ⟨_, rfl, c_of (ent_ix re3 ed0 hd0 rfl fun vk rk => ?_)⟩
    obtain rfl : vk = .str (if e.isW then "write" else "query") := rk
    refine ⟨rfl, _, rfl, ?_⟩
    have hnew : e.id ∉ (waysB rest).map (·.1) := by
      rw [waysB_ids, List.mem_reverse]
      intro z
      obtain ⟨u, hu, hid⟩ := List.mem_map.mp z
      exact (List.nodup_cons.mp ndr).1 (List.mem_map.mpr ⟨u, (List.mem_filter.mp hu).1, hid⟩)
    have hwl : (waysB rest).length ≤ 100 := by
      have := congrArg List.length (waysB_ids rest)
      rw [List.length_map, List.length_reverse, List.length_map] at this
      rw [this]
      exact Nat.le_trans (List.length_filter_le _ _) hrl
    cases hw : e.isW with
    | true =>
      rw [show decide (V.str (if true = true then ("write" : Str) else "query") = V.str "write") = true from decide_eq_true rfl]
      have hgo : wayGo e (onB rest) = wayFrom (onB rest) e.ws := by unfold wayGo; rw [hw, if_pos rfl]
      rw [hgo] at ru
      refine iteT ⟨_, rfl, _, rfl, _, rfl, c_of (ent_ix re3 ed1 hd1 rfl fun vi ri => ?_)⟩
      obtain rfl : vi = .str e.id := ri
      obtain ⟨H5, dp, k5, ws5⟩ := ws3.put hwd' hnew (by omega) ru
      refine ⟨wd, H5, rfl, dp, _, _, rfl, k13.trans (k5.mono (by simp)), ?_, ?_⟩
      · rw [hdrop, hst]
        exact (on3.off hwd' (fun z => nwo z.symm) k5).more (by omega)
      · rw [hdrop]
        unfold waysB
        rw [hw]
        exact ws5
    | false =>
      rw [show decide (V.str (if false = true then ("write" : Str) else "query") = V.str "write") = false from decide_eq_false (by intro h; exact absurd (V.str.inj h) (by decide))]
      refine iteF ⟨_, _, rfl, k13, ?_, ?_⟩
      · rw [hdrop, hst]
        exact on3.more (by omega)
      · rw [hdrop]
        unfold waysB
        rw [hw]
        simp only [Bool.false_eq_true, if_false, List.append_nil]
        exact ws3
  · have ej : j = xs.length := by omega
    refine .inl ⟨ge, _, rfl, ?_⟩
    rw [ej, ← hl, Nat.sub_self, List.drop_zero] at ws
    refine q wd H' (back k) hwd ?_
    obtain ⟨kvs, e, n, r⟩ := ws.at_
    exact ⟨kvs, e, n, RpAll.less (by intro b hb; simp [hb]) _ _ r⟩
end
end NV
/-! StoreA -/
set_option Elab.async false
set_option linter.all false
set_option maxRecDepth 100000
set_option maxHeartbeats 1000000
/-! objects of a class of the top: how methods stand there and are called; the fields of a store -/
namespace NV
open PySem PySem.Spec PyProof.Rows L2
/-- a method of the class C -/
structure Mt (K : PySem.W.Frag) (C : Addr) (m q : Str) (st : Stmt) (ps : List Str) : Type where
  f : Addr
  fd : FuncData
  F : Fun K m q st f fd
  me : Meth K C m f
  b : Binds K fd ps []
def AtM (K : PySem.W.Frag) (C : Addr) (m q : Str) (st : Stmt) : Prop := ∃ (f : Addr) (oc : Value) (od : Option Addr) (kV doc pm : Value) (an : Option Addr) (cd ct : Value) (sl : Array (Option Value)),
  PySem.W.findIn K (.ref C) m = some (some (.ref f)) ∧ PySem.W.isFn K (.ref f) = true ∧ K.lookup f = some ⟨oc, od, .func (PySem.W.fnOf m q (defArgs st) (defBody st) (defScope st) .none kV doc pm an cd ct), sl⟩ ∧ PySem.W.codeIn K cd q = true ∧ PySem.W.keepIn K (.ref f) = true
section
variable {K : PySem.W.Frag} {C : Addr} {m q : Str} {st : Stmt}
theorem atM_mk {f : Addr} {oc : Value} {od : Option Addr} {kV doc pm : Value} {an : Option Addr} {cd ct : Value} {sl : Array (Option Value)} (a : PySem.W.findIn K (.ref C) m = some (some (.ref f))) (i : PySem.W.isFn K (.ref f) = true) (l : K.lookup f = some ⟨oc, od, .func (PySem.W.fnOf m q (defArgs st) (defBody st) (defScope st) .none kV doc pm an cd ct), sl⟩)
    (c : PySem.W.codeIn K cd q = true) (k : PySem.W.keepIn K (.ref f) = true) : AtM K C m q st := ⟨f, oc, od, kV, doc, pm, an, cd, ct, sl, a, i, l, c, k⟩
theorem mt_at {ps : List Str} (a : AtM K C m q st) (hb : ∀ (kV doc pm : Value) (an : Option Addr) (cdv ct : Value) (us : List Value), us.length = ps.length → bindArgs (PySem.W.fnOf m q (defArgs st) (defBody st) (defScope st) .none kV doc pm an cdv ct) ⟨us, []⟩ = pure (ps.zip us)) : Nonempty (Mt K C m q st ps) := by
  obtain ⟨f, oc, od, kV, doc, pm, an, cd, ct, sl, a1, i1, l1, c1, k1⟩ := a
  have F := fun_mk (st := st) l1 c1 k1
  exact ⟨⟨f, _, F, ⟨a1, i1, k1⟩, F.binds hb⟩⟩
end
/-- a method of the class C with defaults, all arguments given -/
structure MtD (K : PySem.W.Frag) (C : Addr) (m q : Str) (st : Stmt) (ps : List Str) : Type where
  f : Addr
  fd : FuncData
  dvs : List V
  F : FunD K m q (defArgs st) (defBody st) (defScope st) dvs [] f fd
  me : Meth K C m f
  b : Binds K fd ps []
def AtMD (K : PySem.W.Frag) (C : Addr) (m q : Str) (st : Stmt) (dvs : List V) : Prop := ∃ (f : Addr) (fd : FuncData), PySem.W.findIn K (.ref C) m = some (some (.ref f)) ∧ PySem.W.isFn K (.ref f) = true ∧ FunD K m q (defArgs st) (defBody st) (defScope st) dvs [] f fd
section
variable {K : PySem.W.Frag} {C : Addr} {m q : Str} {st : Stmt}
theorem atMD_mk {f T : Addr} {oc oT : Value} {od dT : Option Addr} {kV doc pm : Value} {an : Option Addr} {cd ct : Value} {sl sT : Array (Option Value)} {n : Nat} {z : Int} {tk : Tok} (a : PySem.W.findIn K (.ref C) m = some (some (.ref f))) (i : PySem.W.isFn K (.ref f) = true) (l : K.lookup f = some ⟨oc, od, .func (PySem.W.fnOf m q (defArgs st) (defBody st) (defScope st) (.ref T) kV doc pm an cd ct), sl⟩)
    (c : PySem.W.codeIn K cd q = true) (k : PySem.W.keepIn K (.ref f) = true) (t : K.lookup T = some ⟨oT, dT, .seq #[Value.int z tk] n, sT⟩) : AtMD K C m q st [.int z] :=
  ⟨f, _, a, i, ⟨⟨oc, od, .ref T, kV, doc, pm, an, cd, ct, sl, rfl, l, c, .inr ⟨by simp, T, _, [Value.int z tk], n, rfl, t, rfl, .cons ⟨tk, rfl⟩ .nil⟩, .inl rfl⟩, k⟩⟩
theorem mtd_at {ps : List Str} {dvs : List V} (a : AtMD K C m q st dvs)
    (hf : ∀ (T : Addr) (kV doc pm : Value) (an : Option Addr) (cdv ct : Value) (us its : List Value), us.length = ps.length → its.length = dvs.length →
      ∃ k, bindArgs (PySem.W.fnOf m q (defArgs st) (defBody st) (defScope st) (.ref T) kV doc pm an cdv ct) ⟨us, []⟩ = seqItems? (.ref T) >>= k ∧ k (some its.toArray) = pure (ps.zip us)) (hd : dvs ≠ [] := by simp) : Nonempty (MtD K C m q st ps) := by
  obtain ⟨f, fd, a1, i1, F⟩ := a
  obtain ⟨ds2, hv2, b2⟩ := F.binds1 ps.length dvs.length (ps := ps) hd (by omega) fun T kV doc pm an cdv ct us its h1 h2 => by
    obtain ⟨k, e1, e2⟩ := hf T kV doc pm an cdv ct us its h1 h2
    exact ⟨k, e1, by rw [List.drop_of_length_le (by omega), List.append_nil]; exact e2⟩
  rw [List.drop_length] at hv2
  cases hv2
  exact ⟨⟨f, fd, dvs, F, ⟨a1, i1, F.kp⟩, b2⟩⟩
end
/-- what is asked of a class, as one question to the written part -/
def clsB (K : PySem.W.Frag) (C : Addr) (fs : List Str) : Bool := PySem.W.plainGet K C Str.empty && (PySem.W.hasDictIn K C && (PySem.W.plainOver K C && (decide (PySem.W.findIn K (.ref C) "__setattr__" = some (some (.builtin "object.__setattr__"))) && (PySem.W.makesIn K C && (PySem.W.keepIn K (.ref C) && fs.all fun f => decide (PySem.W.findIn K (.ref C) f = some none))))))
theorem clsB_all {K : PySem.W.Frag} {C : Addr} {fs : List Str} (h : clsB K C fs = true) : Cls K C ∧ PySem.W.makesIn K C = true ∧ PySem.W.keepIn K (.ref C) = true ∧ ∀ f ∈ fs, NoAttr K C f := by
  unfold clsB at h
  simp only [Bool.and_eq_true, decide_eq_true_eq, List.all_eq_true] at h
  obtain ⟨h1, h2, h3, h4, h5, h6, h7⟩ := h
  exact ⟨⟨h1, h2, h3, h4⟩, h5, h6, h7⟩
/-- the class as its objects are made -/
structure MkS (K : PySem.W.Frag) (mg : Str → Option Value) (nm : Str) (C fI : Addr) : Prop where
  made : Mk K C fI
  g : mg nm = some (.ref C)
theorem mkS_of {K : PySem.W.Frag} {mg : Str → Option Value} {nm : Str} {C : Addr} {q : Str} {st : Stmt} {ps : List Str} (D : MtD K C "__init__" q st ps) (g : mg nm = some (.ref C)) (h1 : PySem.W.makesIn K C = true) (h2 : PySem.W.keepIn K (.ref C) = true) : MkS K mg nm C D.f := ⟨⟨h1, D.me.at_, D.me.fn, h2⟩, g⟩
section
variable {X : Cx} {C : Addr} {m q : Str} {st : Stmt} {ps : List Str} {sp : Sp} {o e : Expr} {es : List Expr} {ta : TE} {t : TA} {p apos pos : Pos} {j k : Nat}
theorem pe_mth {pl : Sem Bool} (he : PE X o ta) (c : Cls X.K C) (D : Mt X.K C m q st ps) (G : FnOk X.prog X.w X.K X.mg X.base CX0 j D.f D.fd ps sp) (hr : Room k X.A) (ha : PA X (e :: es) t) (hk : j ≤ k := by decide)
    (hst : starEach (e :: es) X.env = (false, eval e X.env) :: starEach es X.env := by rfl) (hpl : (backTo pos (starEach es X.env)).any (·.1) = false := by rfl)
    (ht : eval (.Call (.Attribute o m apos) (e :: es) [] pos) X.env = (do
      let ov ← eval o X.env
      standAt apos.atName
      let (f, first) ← holding [ov] (getMethod ov m pl)
      callWith pos f first (backTo pos (starEach (e :: es) X.env)) (backToKw pos (keywordEach [] X.env))) := by rfl) :
    PE X (.Call (.Attribute o m apos) (e :: es) [] pos) (tMeth C m sp [] (fun _ _ _ => False) ta t) := pe_meth he c D.me G (hr.mono hk) D.b .nil pass0 ha hst hpl ht
theorem pe_mth0 {pl : Sem Bool} (he : PE X o ta) (c : Cls X.K C) (D : Mt X.K C m q st ps) (G : FnOk X.prog X.w X.K X.mg X.base CX0 j D.f D.fd ps sp) (hr : Room k X.A) (hk : j ≤ k := by decide)
    (ht : eval (.Call (.Attribute o m apos) [] [] pos) X.env = (do
      let ov ← eval o X.env
      standAt apos.atName
      let (f, first) ← holding [ov] (getMethod ov m pl)
      callWith pos f first (backTo pos (starEach [] X.env)) (backToKw pos (keywordEach [] X.env))) := by rfl) :
    PE X (.Call (.Attribute o m apos) [] [] pos) (tMeth C m sp [] (fun _ _ _ => False) ta tNil) := pe_meth0 he c D.me G (hr.mono hk) D.b .nil pass0 ht
theorem pe_mkS {nm : Str} {f : Addr} {fd : FuncData} (M : MkS X.K X.mg nm C f) (G : FnOk X.prog X.w X.K X.mg X.base CX0 j f fd ps sp) (hr : Room k X.A) (hb : Binds X.K fd ps []) (ha : PA X (e :: es) t) (hk : j + 1 ≤ k := by decide) (hg : Gl X nm := by rfl)
    (hdb : (nm == ("__debug__" : Str)) = false := by decide) (he : starEach (e :: es) X.env = (false, eval e X.env) :: starEach es X.env := by rfl) (hpl : (backTo pos (starEach es X.env)).any (·.1) = false := by rfl) :
    PE X (.Call (.Name nm p) (e :: es) [] pos) (tMake C sp [] (fun _ _ _ => False) t) := pe_make M.made G (hr.mono hk) hg M.g hb .nil pass0 ha hdb he hpl
end
/-! ### the fields of a store -/
def stF (l : V) (b : V) (r n : V) : List (Str × V) := [("_log", l), ("_budget", b), ("_retracted", r), ("_notes", n)]
section
variable {l b r n v : V}
theorem k_bl : ¬ (("_log" : Str) = "_budget") := by decide +kernel
theorem k_rl : ¬ (("_log" : Str) = "_retracted") := by decide +kernel
theorem k_rb : ¬ (("_budget" : Str) = "_retracted") := by decide +kernel
theorem k_nl : ¬ (("_log" : Str) = "_notes") := by decide +kernel
theorem k_nb : ¬ (("_budget" : Str) = "_notes") := by decide +kernel
theorem k_nr : ¬ (("_retracted" : Str) = "_notes") := by decide +kernel
theorem st_log : (stF l b r n).lookup ("_log" : Str) = some l := rfl
theorem st_budget : (stF l b r n).lookup ("_budget" : Str) = some b := rfl
theorem st_gone : (stF l b r n).lookup ("_retracted" : Str) = some r := rfl
theorem st_notes : (stF l b r n).lookup ("_notes" : Str) = some n := rfl
theorem put_log : putF "_log" v (stF l b r n) = stF v b r n := by
  unfold stF
  simp only [putF]
  rw [if_pos trivial]
theorem put_budget : putF "_budget" v (stF l b r n) = stF l v r n := by
  unfold stF
  simp only [putF]
  rw [if_neg k_bl, if_pos trivial]
theorem put_gone : putF "_retracted" v (stF l b r n) = stF l b v n := by
  unfold stF
  simp only [putF]
  rw [if_neg k_rl, if_neg k_rb, if_pos trivial]
theorem put_l1 : putF "_log" l [] = ([("_log", l)] : List (Str × V)) := rfl
theorem put_l2 : putF "_budget" b ([("_log", l)] : List (Str × V)) = ([("_log", l), ("_budget", b)] : List (Str × V)) := by
  simp only [putF]
  rw [if_neg k_bl]
theorem put_l3 : putF "_retracted" r ([("_log", l), ("_budget", b)] : List (Str × V)) = ([("_log", l), ("_budget", b), ("_retracted", r)] : List (Str × V)) := by
  simp only [putF]
  rw [if_neg k_rl, if_neg k_rb]
theorem put_l4 : putF "_notes" n ([("_log", l), ("_budget", b), ("_retracted", r)] : List (Str × V)) = stF l b r n := by
  unfold stF
  simp only [putF]
  rw [if_neg k_nl, if_neg k_nb, if_neg k_nr]
end
end NV
/-! W8a -/
set_option Elab.async false
set_option linter.all false
set_option maxRecDepth 100000
set_option maxHeartbeats 1000000
/-! costs as values -/
namespace NV
open PySem PySem.Spec PyProof.Rows L2
def costV : Cost → V
  | none => .non
  | some i => .int i
def costKV (l : List (Str × Cost)) : List (Key × V) := l.map fun x => ((Sum.inr x.1 : Key), costV x.2)
end NV
/-! W8 -/
set_option Elab.async false
set_option linter.all false
set_option maxRecDepth 100000
set_option maxHeartbeats 1000000
/-! the package's costs as values -/
namespace NV
open PySem PySem.Spec PyProof.Rows L2
open C8 (pss_cut pe_gc)
theorem paired_at {α β : Type} {R : α → β → Prop} : ∀ {xs : List α} {ys : List β} {i : Nat} {x : α}, Paired R xs ys → xs[i]? = some x → ∃ y, ys[i]? = some y ∧ R x y
  | _ :: _, _ :: _, 0, x, .cons h _, e => ⟨_, rfl, by cases e; exact h⟩
  | _ :: _, _ :: _, i + 1, x, .cons _ t, e => by
    obtain ⟨y, hy, r⟩ := paired_at t (i := i) (x := x) (by simpa using e)
    exact ⟨y, by simpa using hy, r⟩
def spCosts : Sp := fun vs H Q _ => ∃ (v : V) (es : List Ent) (ex : List Addr), vs = [v] ∧ Rp ex H (logD es) v ∧ LogOk es ∧ es.length ≤ 60 ∧ Live ex H ∧ ∀ cd H', Kp [] H H' → H cd = none → H' cd = some (.dK (costKV (costsL es))) → Q (.ref cd) H'
end NV
/-! X1 -/
set_option Elab.async false
set_option linter.all false
set_option maxRecDepth 100000
set_option maxHeartbeats 600000
/-! what compaction keeps, whenever it is done -/
namespace NV
open PySem PySem.Spec PyProof.Rows L2
/-- the same cost, where it is at most B -/
def eqC (B : Int) (x y : Cost) : Prop := (∀ a, x = some a → a ≤ B → y = some a) ∧ (∀ b, y = some b → b ≤ B → x = some b)
theorem eqC.refl {B : Int} (x : Cost) : eqC B x x := ⟨fun _ e _ => e, fun _ e _ => e⟩
theorem eqC.symm {B : Int} {x y : Cost} (h : eqC B x y) : eqC B y x := ⟨h.2, h.1⟩
theorem eqC.trans {B : Int} {x y z : Cost} (h : eqC B x y) (h' : eqC B y z) : eqC B x z := ⟨fun a e l => h'.1 a (h.1 a e l) l, fun b e l => h.2 b (h'.2 b e l) l⟩
/-- both above B -/
theorem eqC.far {B : Int} {x y : Cost} (hx : ∀ a, x = some a → B < a) (hy : ∀ a, y = some a → B < a) : eqC B x y := ⟨fun a e l => by have := hx a e; omega, fun a e l => by have := hy a e; omega⟩
theorem from_some {o : Str → Way} {cs : List Str} {b : Int} (h : costW (wayFrom o cs) = some b) : (∃ c ∈ cs, costW (o c) = some b) ∧ ∀ c ∈ cs, ∀ b', costW (o c) = some b' → b ≤ b' := by
  by_cases hn : cs.filterMap o = []
  · unfold wayFrom at h
    rw [(minW_iff _).1 hn] at h
    cases h
  · obtain ⟨m, hm, hin, hl⟩ := (minW_iff (cs.filterMap o)).2 hn
    unfold wayFrom at h
    rw [hm] at h
    have hb : m.1 = b := Option.some.inj h
    obtain ⟨c, hc, hoc⟩ := List.mem_filterMap.mp hin
    refine ⟨⟨c, hc, by rw [hoc]; exact congrArg some hb⟩, fun c' hc' b' hb' => ?_⟩
    cases ho : o c' with
    | none => rw [ho] at hb'; cases hb'
    | some w =>
      rw [ho] at hb'
      have := hl w (List.mem_filterMap.mpr ⟨c', hc', ho⟩)
      have : w.1 = b' := Option.some.inj hb'
      omega
theorem from_le {o : Str → Way} {cs : List Str} {c : Str} {b : Int} (hc : c ∈ cs) (h : costW (o c) = some b) : ∃ b', costW (wayFrom o cs) = some b' ∧ b' ≤ b := by
  cases ho : o c with
  | none => rw [ho] at h; cases h
  | some w =>
    rw [ho] at h
    have hb : w.1 = b := Option.some.inj h
    have hin : w ∈ cs.filterMap o := List.mem_filterMap.mpr ⟨c, hc, ho⟩
    obtain ⟨m, hm, _, hl⟩ := (minW_iff (cs.filterMap o)).2 (fun z => by rw [z] at hin; cases hin)
    refine ⟨m.1, by unfold wayFrom; rw [hm]; rfl, ?_⟩
    have := hl w hin
    omega
theorem eq_from {B : Int} {o o' : Str → Way} {cs : List Str} (h : ∀ c, eqC B (costW (o c)) (costW (o' c))) : eqC B (costW (wayFrom o cs)) (costW (wayFrom o' cs)) := by
  have one : ∀ {o o' : Str → Way}, (∀ c, eqC B (costW (o c)) (costW (o' c))) → ∀ a, costW (wayFrom o cs) = some a → a ≤ B → costW (wayFrom o' cs) = some a := by
    intro o o' h a e l
    obtain ⟨⟨c, hc, hoc⟩, low⟩ := from_some e
    obtain ⟨b, hb, hba⟩ := from_le hc ((h c).1 a hoc l)
    obtain ⟨⟨c2, hc2, hoc2⟩, _⟩ := from_some hb
    have := low c2 hc2 b ((h c2).2 b hoc2 (by omega))
    rw [hb]
    congr 1
    omega
  exact ⟨one h, one fun c => (h c).symm⟩
theorem eq_past {B : Int} {pr : Option Int} (hp : PrOk pr) {x y : Way} (h : eqC B (costW x) (costW y)) : eqC B (costW (past pr x)) (costW (past pr y)) := by
  have one : ∀ {x y : Way}, eqC B (costW x) (costW y) → ∀ a, costW (past pr x) = some a → a ≤ B → costW (past pr y) = some a := by
    intro x y h a e l
    match x, pr, hp, e with
    | some (k, p), some i, hp, e =>
      have hi := (hp i rfl).1
      have e : k + i = a := Option.some.inj e
      have hk := h.1 k rfl (by omega)
      cases y with
      | none => cases hk
      | some z =>
        have hz : z.1 = k := Option.some.inj hk
        show some (z.1 + i) = some a
        rw [hz, e]
  exact ⟨one h, one h.symm⟩
theorem eq_better {B : Int} {x y : Int × Path} {u v : Way} (h : eqC B (some x.1) (some y.1)) (h' : eqC B (costW u) (costW v)) : eqC B (costW (better x u)) (costW (better y v)) := by
  have one : ∀ {x y : Int × Path} {u v : Way}, eqC B (some x.1) (some y.1) → eqC B (costW u) (costW v) → ∀ a, costW (better x u) = some a → a ≤ B → costW (better y v) = some a := by
    intro x y u v h h' a e l
    rw [cost_better] at e ⊢
    have bx : x.1 ≤ B → y.1 = x.1 := fun z => Option.some.inj (h.1 x.1 rfl z)
    have by_ : y.1 ≤ B → x.1 = y.1 := fun z => Option.some.inj (h.2 y.1 rfl z)
    cases hu : costW u with
    | none =>
      rw [hu] at e
      have e : x.1 = a := Option.some.inj e
      have := bx (by omega)
      cases hv : costW v with
      | none => show some y.1 = some a; congr 1; omega
      | some b =>
        show some (min y.1 b) = some a
        have : ¬ b ≤ B := fun z => by
          have := h'.2 b hv z
          rw [hu] at this
          cases this
        congr 1
        omega
    | some c =>
      rw [hu] at e
      have e : min x.1 c = a := Option.some.inj e
      cases hv : costW v with
      | none =>
        have : ¬ c ≤ B := fun z => by
          have := h'.1 c hu z
          rw [hv] at this
          cases this
        show some y.1 = some a
        have hx : x.1 = a := by omega
        have := bx (by omega)
        congr 1
        omega
      | some b =>
        have hcb : c ≤ B → b = c := fun z => by
          have := h'.1 c hu z
          rw [hv] at this
          exact Option.some.inj this
        have hbc : b ≤ B → c = b := fun z => by
          have := h'.2 b hv z
          rw [hu] at this
          exact Option.some.inj this
        show some (min y.1 b) = some a
        congr 1
        by_cases h1 : x.1 ≤ B <;> by_cases h2 : c ≤ B <;> by_cases h3 : y.1 ≤ B <;> by_cases h4 : b ≤ B <;> omega
  exact ⟨one h h', one h.symm h'.symm⟩
/-- a reading that is too dear changes nothing -/
theorem eq_far {B : Int} {x : Int × Path} {u : Way} (h : B < x.1) : eqC B (costW (better x u)) (costW u) := by
  constructor
  · intro a e l
    rw [cost_better] at e
    cases hu : costW u with
    | none => rw [hu] at e; have e : x.1 = a := Option.some.inj e; omega
    | some c => rw [hu] at e; have e : min x.1 c = a := Option.some.inj e; congr 1; omega
  · intro a e l
    rw [cost_better, e]
    show some (min x.1 a) = some a
    congr 1
    omega
theorem eq_reads {B : Int} {e : Ent} {w w' : Way} {u u' : Str → Way} (hw : eqC B (costW w) (costW w')) (hu : ∀ c, eqC B (costW (u c)) (costW (u' c))) (c : Str) : eqC B (costW (readers e w u c)) (costW (readers e w' u' c)) := by
  unfold readers
  by_cases hc : c ∈ e.rs
  · rw [if_pos hc, if_pos hc]
    match w, w', hw with
    | none, none, _ => exact hu c
    | some (k, p), some (k', p'), hw => exact eq_better (x := (k, _)) (y := (k', _)) hw (hu c)
    | some (k, p), none, hw =>
      have : B < k := by
        rcases Int.lt_or_le B k with h | h
        · exact h
        · cases hw.1 k rfl h
      exact (eq_far (x := (k, _)) this).trans (hu c)
    | none, some (k, p), hw =>
      have : B < k := by
        rcases Int.lt_or_le B k with h | h
        · exact h
        · cases hw.2 k rfl h
      exact (hu c).trans (eq_far (x := (k, _)) this).symm
  · rw [if_neg hc, if_neg hc]
    exact hu c
theorem Ent.Ok.prOk {e : Ent} (h : e.Ok) : PrOk e.pr := by
  cases e with
  | wr id rs ws pr => exact h.2.2.2
  | qu id cs => exact fun i e => by cases e
theorem eq_step {B : Int} {e : Ent} (ok : e.Ok) {o o' : Str → Way} (h : ∀ c, eqC B (costW (o c)) (costW (o' c))) : ∀ c, eqC B (costW (stepB e o c)) (costW (stepB e o' c)) := by
  cases e with
  | wr id rs ws pr =>
    refine eq_reads (eq_from h) fun c => ?_
    unfold blocked
    by_cases hc : c ∈ (Ent.wr id rs ws pr).ws
    · rw [if_pos hc, if_pos hc]
      exact eq_past ok.prOk (h c)
    · rw [if_neg hc, if_neg hc]
      exact h c
  | qu id cs => exact eq_reads (w := some (0, [])) (w' := some (0, [])) (eqC.refl _) h
def within (B : Int) : Cost → Bool
  | none => false
  | some k => decide (k ≤ B)
theorem eqC.within {B : Int} {x y : Cost} (h : eqC B x y) : within B x = within B y := by
  cases x with
  | none =>
    cases y with
    | none => rfl
    | some b =>
      show false = decide (b ≤ B)
      symm
      exact decide_eq_false fun z => by cases h.2 b rfl z
  | some a =>
    cases y with
    | none =>
      show decide (a ≤ B) = false
      exact decide_eq_false fun z => by cases h.1 a rfl z
    | some b =>
      show decide (a ≤ B) = decide (b ≤ B)
      rw [decide_eq_decide]
      exact ⟨fun z => by have := Option.some.inj (h.1 a rfl z); omega, fun z => by have := Option.some.inj (h.2 b rfl z); omega⟩
theorem far_of {B : Int} {x : Cost} (h : within B x = false) : ∀ a, x = some a → B < a := fun a e => by
  rw [e] at h
  have := of_decide_eq_false h
  omega
/-- a write that costs more than B is not missed -/
theorem eq_del {B : Int} {e : Ent} (hw : e.isW = true) (ok : e.Ok) {o : Str → Way} (h : within B (costW (wayFrom o e.ws)) = false) : ∀ c, eqC B (costW (stepB e o c)) (costW (o c)) := by
  intro c
  have far := far_of h
  have step : stepB e o = readers e (wayFrom o e.ws) (blocked e o) := by
    cases e with
    | wr id rs ws pr => rfl
    | qu id cs => cases hw
  rw [step]
  have hb : eqC B (costW (blocked e o c)) (costW (o c)) := by
    unfold blocked
    by_cases hc : c ∈ e.ws
    · rw [if_pos hc]
      have fo : ∀ a, costW (o c) = some a → B < a := fun a ha => by
        obtain ⟨b, hb, hba⟩ := from_le hc ha
        have := far b hb
        omega
      refine .far (fun a ha => ?_) fo
      match hoc : o c, hp : e.pr, ok.prOk, ha with
      | some (k, p), some i, hpr, ha =>
        have ha : k + i = a := Option.some.inj ha
        have := fo k (by rw [hoc]; rfl)
        have := (hpr i rfl).1
        omega
    · rw [if_neg hc]
      exact .refl _
  unfold readers
  by_cases hc : c ∈ e.rs
  · rw [if_pos hc]
    match hwf : wayFrom o e.ws with
    | none => exact hb
    | some (k, p) => exact (eq_far (x := (k, _)) (far k (by rw [hwf]; rfl))).trans hb
  · rw [if_neg hc]
    exact hb
/-! ### parts of logs -/
def onF : List Ent → (Str → Way) → Str → Way
  | [], o => o
  | e :: M, o => stepB e (onF M o)
theorem onB_app : ∀ (M rest : List Ent), onB (M ++ rest) = onF M (onB rest)
  | [], _ => rfl
  | e :: M, rest => by
    show stepB e (onB (M ++ rest)) = stepB e (onF M (onB rest))
    rw [onB_app M rest]
theorem onB_F (M : List Ent) : onB M = onF M endW := by
  have := onB_app M []
  rw [List.append_nil] at this
  exact this
def keeps (B : Int) (e : Ent) (o : Str → Way) : Bool := !e.isW || within B (costW (wayFrom o e.ws))
def keptO (B : Int) : List Ent → (Str → Way) → List Ent
  | [], _ => []
  | e :: M, o => (if keeps B e (onF M o) then [e] else []) ++ keptO B M o
def keptB (B : Int) (M : List Ent) : List Ent := keptO B M endW
theorem onF_app : ∀ (M N : List Ent) (o : Str → Way), onF (M ++ N) o = onF M (onF N o)
  | [], _, _ => rfl
  | e :: M, N, o => by
    show stepB e (onF (M ++ N) o) = stepB e (onF M (onF N o))
    rw [onF_app M N o]
theorem keptO_app (B : Int) : ∀ (M N : List Ent) (o : Str → Way), keptO B (M ++ N) o = keptO B M (onF N o) ++ keptO B N o
  | [], _, _ => rfl
  | e :: M, N, o => by
    show (if keeps B e (onF (M ++ N) o) then [e] else []) ++ keptO B (M ++ N) o = ((if keeps B e (onF M (onF N o)) then [e] else []) ++ keptO B M (onF N o)) ++ keptO B N o
    rw [onF_app, keptO_app B M N o, List.append_assoc]
theorem keptO_sub (B : Int) : ∀ (M : List Ent) (o : Str → Way), List.Sublist (keptO B M o) M
  | [], _ => .slnil
  | e :: M, o => by
    show List.Sublist ((if keeps B e (onF M o) then [e] else []) ++ keptO B M o) (e :: M)
    cases keeps B e (onF M o) with
    | true => exact (keptO_sub B M o).cons_cons e
    | false => exact (keptO_sub B M o).cons e
theorem eq_onF {B : Int} {o o' : Str → Way} (h : ∀ c, eqC B (costW (o c)) (costW (o' c))) : ∀ (M : List Ent), (∀ e ∈ M, e.Ok) → ∀ c, eqC B (costW (onF M o c)) (costW (onF M o' c))
  | [], _ => h
  | e :: M, ok => eq_step (ok e List.mem_cons_self) (eq_onF h M fun u hu => ok u (List.mem_cons_of_mem _ hu))
theorem eq_keeps {B : Int} {e : Ent} {o o' : Str → Way} (h : ∀ c, eqC B (costW (o c)) (costW (o' c))) : keeps B e o = keeps B e o' := by
  unfold keeps
  rw [(eq_from (cs := e.ws) h).within]
theorem eq_keptO {B : Int} {o o' : Str → Way} (h : ∀ c, eqC B (costW (o c)) (costW (o' c))) : ∀ (M : List Ent), (∀ e ∈ M, e.Ok) → keptO B M o = keptO B M o'
  | [], _ => rfl
  | e :: M, ok => by
    have ok' : ∀ u ∈ M, u.Ok := fun u hu => ok u (List.mem_cons_of_mem _ hu)
    show (if keeps B e (onF M o) then [e] else []) ++ keptO B M o = (if keeps B e (onF M o') then [e] else []) ++ keptO B M o'
    rw [eq_keeps (eq_onF h M ok'), eq_keptO h M ok']
theorem le_onF {o : Str → Way} (h : Below o) : ∀ (M : List Ent), ∀ c, leC 0 (costW (onF M endW c)) (costW (onF M o c))
  | [] => fun c b e => ⟨0, rfl, by have := h c b e; omega⟩
  | e :: M => le_step (Int.le_refl 0) e (le_onF h M)
/-- what is deleted alone is deleted with more behind it, for a smaller budget too -/
theorem del_more {B B' : Int} (hB : B ≤ B') {e : Ent} {M : List Ent} {o : Str → Way} (h : Below o) (hd : keeps B' e (onF M endW) = false) : e.isW = true ∧ within B (costW (wayFrom (onF M o) e.ws)) = false := by
  unfold keeps at hd
  rw [Bool.or_eq_false_iff, Bool.not_eq_false'] at hd
  refine ⟨hd.1, ?_⟩
  cases hx : costW (wayFrom (onF M o) e.ws) with
  | none => rfl
  | some b =>
    obtain ⟨a, ha, hab⟩ := le_from (cs := e.ws) (le_onF h M) b hx
    have := far_of hd.2 a ha
    show decide (b ≤ B) = false
    exact decide_eq_false (by omega)
/-- a part compacted first makes no difference to what comes before it .. -/
theorem part_on {B B' : Int} (hB : B ≤ B') {o : Str → Way} (h : Below o) : ∀ (M : List Ent), (∀ e ∈ M, e.Ok) → ∀ c, eqC B (costW (onF (keptB B' M) o c)) (costW (onF M o c))
  | [], _, c => eqC.refl _
  | e :: M, ok, c => by
    have ok' : ∀ u ∈ M, u.Ok := fun u hu => ok u (List.mem_cons_of_mem _ hu)
    have ih := part_on hB h M ok'
    show eqC B (costW (onF ((if keeps B' e (onF M endW) then [e] else []) ++ keptO B' M endW) o c)) _
    cases hk : keeps B' e (onF M endW) with
    | true => exact eq_step (ok e List.mem_cons_self) ih c
    | false =>
      obtain ⟨hw, hf⟩ := del_more hB h hk
      exact (ih c).trans (eq_del hw (ok e List.mem_cons_self) hf c).symm
/-- .. nor to what is kept of it -/
theorem part_kept {B B' : Int} (hB : B ≤ B') {o : Str → Way} (h : Below o) : ∀ (M : List Ent), (∀ e ∈ M, e.Ok) → keptO B (keptB B' M) o = keptO B M o
  | [], _ => rfl
  | e :: M, ok => by
    have ok' : ∀ u ∈ M, u.Ok := fun u hu => ok u (List.mem_cons_of_mem _ hu)
    have ih := part_kept hB h M ok'
    have on := part_on hB h M ok'
    show keptO B ((if keeps B' e (onF M endW) then [e] else []) ++ keptO B' M endW) o = (if keeps B e (onF M o) then [e] else []) ++ keptO B M o
    cases hk : keeps B' e (onF M endW) with
    | true =>
      show (if keeps B e (onF (keptB B' M) o) then [e] else []) ++ keptO B (keptB B' M) o = _
      rw [ih, eq_keeps on]
    | false =>
      obtain ⟨hw, hf⟩ := del_more hB h hk
      have hno : keeps B e (onF M o) = false := by
        unfold keeps
        rw [hw, hf]
        rfl
      rw [hno]
      exact ih
theorem below_on : ∀ (M : List Ent), (∀ e ∈ M, e.Ok) → Below (onB M)
  | [], _ => below_end
  | e :: M, ok => below_step (below_on M fun u hu => ok u (List.mem_cons_of_mem _ hu)) (ok e List.mem_cons_self)
theorem kept_parts {B B' : Int} (hB : B ≤ B') (pre M rest : List Ent) (ok : ∀ e ∈ pre ++ (M ++ rest), e.Ok) : keptB B (pre ++ (keptB B' M ++ rest)) = keptB B (pre ++ (M ++ rest)) := by
  have okp : ∀ e ∈ pre, e.Ok := fun e he => ok e (List.mem_append_left _ he)
  have okm : ∀ e ∈ M, e.Ok := fun e he => ok e (List.mem_append_right _ (List.mem_append_left _ he))
  have okr : ∀ e ∈ rest, e.Ok := fun e he => ok e (List.mem_append_right _ (List.mem_append_right _ he))
  have hb : Below (onF rest endW) := by rw [← onB_F]; exact below_on rest okr
  unfold keptB
  rw [keptO_app, keptO_app, keptO_app, keptO_app]
  congr 1
  · rw [onF_app, onF_app]
    exact eq_keptO (part_on hB hb M okm) pre okp
  · congr 1
    exact part_kept hB hb M okm
/-- compacted once, compacted -/
theorem kept_same {B B' : Int} (hB : B ≤ B') {M : List Ent} (ok : ∀ e ∈ M, e.Ok) : keptB B' (keptB B M) = keptB B M := by
  have h := kept_parts (B := B) (B' := B) (Int.le_refl B) [] M [] (by simpa using ok)
  simp only [List.nil_append, List.append_nil] at h
  generalize keptB B M = N at h
  have all : ∀ (N : List Ent) (o : Str → Way), keptO B N o = N → keptO B' N o = N := by
    intro N
    induction N with
    | nil => intro o _; rfl
    | cons e N ih =>
      intro o h
      have h : (if keeps B e (onF N o) then [e] else []) ++ keptO B N o = e :: N := h
      have hk : keeps B e (onF N o) = true := by
        cases hk : keeps B e (onF N o) with
        | true => rfl
        | false =>
          rw [hk] at h
          have := (keptO_sub B N o).length_le
          have h2 := congrArg List.length h
          simp at h2
          omega
      rw [hk] at h
      have h2 : keptO B N o = N := (List.cons.inj h).2
      show (if keeps B' e (onF N o) then [e] else []) ++ keptO B' N o = e :: N
      rw [ih o h2]
      have : keeps B' e (onF N o) = true := by
        unfold keeps at hk ⊢
        cases hx : costW (wayFrom (onF N o) e.ws) with
        | none => rw [hx] at hk; exact hk
        | some k =>
          rw [hx] at hk
          rw [Bool.or_eq_true] at hk ⊢
          exact hk.imp id fun z => decide_eq_true (by have := of_decide_eq_true z; omega)
      rw [this]
      rfl
  exact all N endW h
theorem keptB_sub (B : Int) (es : List Ent) : List.Sublist (keptB B es) es := keptO_sub B es endW
end NV
/-! Y1b -/
set_option Elab.async false
set_option linter.all false
set_option maxRecDepth 100000
set_option maxHeartbeats 600000
/-! the package's check_budget, is_within (out of Y1) -/
namespace NV
open PySem PySem.Spec PyProof.Rows L2
open C8 (pss_cut pe_gc)
abbrev sCheckBudget : Stmt := topS 48
theorem scCheckBudget : FnScope ["budget"] ["budget"] (defScope sCheckBudget) := ⟨rfl, rfl, rfl, by decide +kernel, rfl, by decide +kernel, by decide +kernel⟩
abbrev sIsWithin : Stmt := topS 49
theorem scIsWithin : FnScope ["way", "budget"] ["way", "budget"] (defScope sIsWithin) := ⟨rfl, rfl, rfl, by decide +kernel, rfl, by decide +kernel, by decide +kernel⟩
def spBudget : Sp := fun vs H Q _ => ∃ B : Int, vs = [.int B] ∧ 0 ≤ B ∧ B ≤ 999 ∧ Q .non H
def spIn : Sp := fun vs H Q _ => ∃ (v : V) (w : Way) (ex : List Addr) (B : Int), vs = [v, .int B] ∧ Rp ex H (wayD w) v ∧ Q (.bl (within B (costW w))) H
section
variable {P : Program} {w : World} {K : PySem.W.Frag} {mg : Str → Option Value} {base : Heap}
theorem ok_budget (DCheckBudget : Fn K mg "check_budget" sCheckBudget ["budget"]) (DIsIntegerWithin : Fn K mg "is_integer_within" sIsIntegerWithin ["value", "lowest", "highest"]) (g1 : ∃ u, mg "HIGHEST_BUDGET" = some u ∧ L2.RelV (.int 999) u)
    (GIsIntegerWithin : FnOk P w K mg base CX0 1 DIsIntegerWithin.f DIsIntegerWithin.fd ["value", "lowest", "highest"] spWithin) : FnOk P w K mg base CX0 2 DCheckBudget.f DCheckBudget.fd ["budget"] spBudget := by
  refine DCheckBudget.F.ok scCheckBudget (fun vs H Q E h => ?_) (fun cdv A outer s H vs Q E hr h => ?_)
  · obtain ⟨B, rfl, _⟩ := h
    rfl
  obtain ⟨B, rfl, h0, h1, q⟩ := h
  refine ⟨_, pss_one (ps_if (pt_not (pt_val (pe_fn DIsIntegerWithin GIsIntegerWithin hr (pa_cons (pv 0) (pa_cons pe_int (pa_cons (pe_gc (v := .int 999) rfl g1) pa_nil))))))
      (pss_one (ps_dead _))
      pss_nil), ?_⟩
  refine ⟨_, rfl, .int B, .int B, [], 0, 999, rfl, rfl, _, rfl, ?_⟩
  have e : withinD 0 999 (.int B) = true := by
    show (decide (0 ≤ B) && decide (B ≤ 999)) = true
    rw [decide_eq_true h0, decide_eq_true h1]
    rfl
  rw [e]
  exact iteF q
theorem ok_in (DIsWithin : Fn K mg "is_within" sIsWithin ["way", "budget"]) : FnOk P w K mg base CX0 1 DIsWithin.f DIsWithin.fd ["way", "budget"] spIn := by
  refine DIsWithin.F.ok scIsWithin (fun vs H Q E h => ?_) (fun cdv A outer s H vs Q E hr h => ?_)
  · obtain ⟨v, y, ex, B, rfl, _⟩ := h
    rfl
  obtain ⟨v, y, ex, B, rfl, rv, q⟩ := h
  refine ⟨_, pss_one (ps_ret (pe_and (pe_cmpR op_notN (pv 0) pe_non (nomark _)) (pe_one (pe_cmpR op_le (pe_ix (ixtE K) (pv 0) pe_int (fun _ _ => rfl)) (pv 1) (nomark _))))), ?_⟩
  refine ⟨_, rfl, rfl, _, rfl, ?_⟩
  cases y with
  | none =>
    obtain rfl : v = .non := rv
    exact iteF q
  | some x =>
    obtain ⟨a, xs, rfl, _, ha, hx⟩ := rv
    refine iteT ⟨_, rfl, c_of (ixD (j := 0) rfl ha hx rfl fun u ru => ?_)⟩
    obtain rfl : u = .int x.1 := ru
    exact ⟨_, rfl, _, _, rfl, rfl, q⟩
end
end NV
/-! Wv -/
set_option Elab.async false
set_option linter.all false
set_option maxRecDepth 100000
set_option maxHeartbeats 600000
/-! the dict of ways, asked for one -/
namespace NV
open PySem PySem.Spec PyProof.Rows L2
theorem ways_mem {pre rest : List Ent} {e : Ent} (hw : e.isW = true) : (e.id, wayFrom (onB rest) e.ws) ∈ waysB (pre ++ e :: rest) := by
  induction pre with
  | nil =>
    show _ ∈ waysB rest ++ (if e.isW then [(e.id, wayFrom (onB rest) e.ws)] else [])
    rw [hw]
    simp
  | cons u pre ih => exact List.mem_append_left _ ih
theorem way_val {ex : List Addr} {H : Hp} {n : Str} {w : Way} : ∀ {ws : List (Str × Way)} {kvs : List (Key × V)}, (ws.map (·.1)).Nodup → kvs.map (·.1) = ws.map (fun x => (Sum.inr x.1 : Key)) → RpAll ex H (ws.map fun x => wayD x.2) (kvs.map (·.2)) → (n, w) ∈ ws → ∃ v, valV kvs (Sum.inr n : Key) = some v ∧ Rp ex H (wayD w) v
  | [], _, _, _, _, h => by cases h
  | p :: ws, [], _, n1, _, _ => by cases n1
  | p :: ws, q :: kvs, nd, n1, r, h => by
    rw [List.map_cons, List.map_cons] at n1
    obtain ⟨hq, n2⟩ := List.cons.inj n1
    rw [List.map_cons] at nd
    have nn := List.nodup_cons.mp nd
    rw [List.map_cons, List.map_cons] at r
    obtain ⟨v, vs, e, r1, r2⟩ := r
    obtain ⟨rfl, rfl⟩ := List.cons.inj e
    rcases List.mem_cons.mp h with z | z
    · exact ⟨q.2, by rw [valV_pos (p := q) (by rw [hq, ← z])], by rw [← z] at r1; exact r1⟩
    · have ne : p.1 ≠ n := fun y => nn.1 (List.mem_map.mpr ⟨_, z, y.symm⟩)
      obtain ⟨v, hv, rv⟩ := way_val nn.2 n2 r2 z
      exact ⟨v, by rw [valV_neg (p := q) (fun y => by rw [hq] at y; exact ne (Sum.inr.inj y))]; exact hv, rv⟩
theorem ways_nd {es : List Ent} (h : (es.map Ent.id).Nodup) : ((waysB es).map (·.1)).Nodup := by
  rw [waysB_ids]
  unfold List.Nodup
  rw [List.pairwise_reverse]
  exact List.Pairwise.imp (fun h => Ne.symm h) (h.sublist (List.filter_sublist.map _))
end NV
/-! M2 -/
set_option Elab.async false
set_option linter.all false
set_option maxRecDepth 100000
set_option maxHeartbeats 1000000
/-! what the law asks of logs, cut and joined -/
namespace NV
open PySem PySem.Spec PyProof.Rows L2
theorem cost_of {l : List (Str × Cost)} {n : Str} {x : Cost} (nd : (l.map (·.1)).Nodup) (h : (n, x) ∈ l) : valV (costKV l) (Sum.inr n : Key) = some (costV x) := by
  induction l with
  | nil => cases h
  | cons p l ih =>
    rw [List.map_cons] at nd
    have nn := List.nodup_cons.mp nd
    rcases List.mem_cons.mp h with e | e
    · rw [← e]
      exact valV_pos (p := ((Sum.inr n : Key), costV x)) rfl
    · have ne : p.1 ≠ n := fun z => nn.1 (List.mem_map.mpr ⟨_, e, z.symm⟩)
      have e1 : valV (costKV (p :: l)) (Sum.inr n : Key) = valV (costKV l) (Sum.inr n : Key) := valV_neg (p := ((Sum.inr p.1 : Key), costV p.2)) (fun z => ne (Sum.inr.inj z))
      rw [e1]
      exact ih nn.2 e
theorem costs_nd {es : List Ent} (h : LogOk es) : ((costsL es).map (·.1)).Nodup := by
  rw [costsL_names]
  exact h.nd.sublist (List.filter_sublist.map _)
/-- the last write, where there is one -/
theorem last_write : ∀ {es : List Ent}, es.filter Ent.isW ≠ [] → ∃ pre e rest, es = pre ++ e :: rest ∧ e.isW = true ∧ ∀ u ∈ rest, u.isW = false
  | [], h => absurd rfl h
  | u :: es, h => by
    by_cases h2 : es.filter Ent.isW = []
    · refine ⟨[], u, es, rfl, ?_, fun v hv => ?_⟩
      · cases hu : u.isW with
        | true => rfl
        | false =>
          rw [List.filter_cons, hu] at h
          exact absurd h2 (by simpa using h)
      · cases hw : v.isW with
        | false => rfl
        | true =>
          have : v ∈ es.filter Ent.isW := List.mem_filter.mpr ⟨hv, hw⟩
          rw [h2] at this
          cases this
    · obtain ⟨pre, e, rest, h3, h4, h5⟩ := last_write h2
      exact ⟨u :: pre, e, rest, by rw [h3]; rfl, h4, h5⟩
theorem costs_mem {pre rest : List Ent} {e : Ent} (hw : e.isW = true) : (e.id, costW (wayFrom (onB rest) e.ws)) ∈ costsL (pre ++ e :: rest) := by
  induction pre with
  | nil =>
    show _ ∈ (if e.isW then [(e.id, costW (wayFrom (onB rest) e.ws))] else []) ++ costsL rest
    rw [hw]
    simp
  | cons u pre ih => exact List.mem_append_right _ ih
/-- its name is the last, its cost is 0 -/
theorem last_cost {es : List Ent} (ok : LogOk es) (h : es.filter Ent.isW ≠ []) : ∃ n, ((es.filter Ent.isW).map Ent.id)[((es.filter Ent.isW).map Ent.id).length - 1]? = some n ∧ valV (costKV (costsL es)) (Sum.inr n : Key) = some (.int 0) := by
  obtain ⟨pre, e, rest, he, hw, hr⟩ := last_write h
  have hf : es.filter Ent.isW = pre.filter Ent.isW ++ [e] := by
    rw [he, List.filter_append, List.filter_cons, hw]
    have : rest.filter Ent.isW = [] := List.filter_eq_nil_iff.mpr fun u hu => by rw [hr u hu]; exact Bool.false_ne_true
    rw [this]
    rfl
  refine ⟨e.id, ?_, ?_⟩
  · rw [hf, List.map_append, List.length_append]
    simp
  · have hm : e ∈ es := by rw [he]; simp
    have := costs_mem (pre := pre) (rest := rest) hw
    rw [last_free (pre := pre) hw (ok.ok e hm) hr, ← he] at this
    exact cost_of (costs_nd ok) this
end NV
/-! X2 -/
set_option Elab.async false
set_option linter.all false
set_option maxRecDepth 100000
set_option maxHeartbeats 600000
/-! costs edge by edge -/
namespace NV
open PySem PySem.Spec PyProof.Rows L2
def minC : Cost → Cost → Cost
  | none, y => y
  | x, none => x
  | some a, some b => some (min a b)
def addC : Cost → Cost → Cost
  | some a, some b => some (a + b)
  | _, _ => none
theorem minC_none (x : Cost) : minC x none = x := by cases x <;> rfl
theorem minC_assoc (x y z : Cost) : minC (minC x y) z = minC x (minC y z) := by
  cases x <;> cases y <;> cases z <;> simp [minC, Int.min_assoc]
theorem addC_zero (x : Cost) : addC (some 0) x = x := by
  cases x <;> simp [addC]
theorem addC_assoc (x y z : Cost) : addC (addC x y) z = addC x (addC y z) := by
  cases x <;> cases y <;> cases z <;> simp [addC, Int.add_assoc]
theorem addC_comm (x y : Cost) : addC x y = addC y x := by
  cases x <;> cases y <;> simp [addC, Int.add_comm]
theorem addC_min (t x y : Cost) : addC t (minC x y) = minC (addC t x) (addC t y) := by
  cases t <;> cases x <;> cases y <;> simp [addC, minC]
def minL : List Cost → Cost
  | [] => none
  | x :: l => minC x (minL l)
theorem minL_app : ∀ l m : List Cost, minL (l ++ m) = minC (minL l) (minL m)
  | [], m => rfl
  | x :: l, m => by
    show minC x (minL (l ++ m)) = minC (minC x (minL l)) (minL m)
    rw [minL_app l m, minC_assoc]
theorem minL_fold : ∀ (l : List Cost) (a : Cost), l.foldl minC a = minC a (minL l)
  | [], a => (minC_none a).symm
  | x :: l, a => by
    show l.foldl minC (minC a x) = minC a (minC x (minL l))
    rw [minL_fold l, minC_assoc]
theorem minL_some {l : List Cost} : ∀ {b : Int}, minL l = some b ↔ some b ∈ l ∧ ∀ b', some b' ∈ l → b ≤ b' := by
  induction l with
  | nil => intro b; simp [minL]
  | cons x l ih =>
    intro b
    show minC x (minL l) = some b ↔ _
    cases x with
    | none =>
      show minL l = some b ↔ _
      rw [ih]
      simp
    | some a =>
      cases hm : minL l with
      | none =>
        have no : ∀ b', some b' ∉ l := by
          intro b' hb'
          clear ih
          induction l with
          | nil => cases hb'
          | cons y l ihl =>
            have hm : minC y (minL l) = none := hm
            cases y with
            | none => exact ihl hm ((List.mem_cons.mp hb').resolve_left (by simp))
            | some c =>
              cases h : minL l with
              | none => rw [h] at hm; cases hm
              | some d => rw [h] at hm; cases hm
        show some a = some b ↔ _
        constructor
        · intro e
          cases e
          exact ⟨List.mem_cons_self, fun b' h => by
            rcases List.mem_cons.mp h with z | z
            · cases z; exact Int.le_refl _
            · exact absurd z (no b')⟩
        · rintro ⟨h, _⟩
          rcases List.mem_cons.mp h with z | z
          · exact z.symm
          · exact absurd z (no b)
      | some c =>
        have hc := ih.mp hm
        show some (min a c) = some b ↔ _
        constructor
        · intro e
          have e : min a c = b := Option.some.inj e
          refine ⟨?_, fun b' h => ?_⟩
          · by_cases hac : a ≤ c
            · have : a = b := by omega
              rw [this]; exact List.mem_cons_self
            · have : c = b := by omega
              rw [← this]; exact List.mem_cons_of_mem _ hc.1
          · rcases List.mem_cons.mp h with z | z
            · cases z; omega
            · have := hc.2 b' z; omega
        · rintro ⟨h, low⟩
          congr 1
          have h1 := low a List.mem_cons_self
          have h2 := low c (List.mem_cons_of_mem _ hc.1)
          rcases List.mem_cons.mp h with z | z
          · cases z; omega
          · have := hc.2 b z; omega
theorem from_min (o : Str → Way) (cs : List Str) : costW (wayFrom o cs) = minL (cs.map fun c => costW (o c)) := by
  cases h : costW (wayFrom o cs) with
  | some b =>
    obtain ⟨⟨c, hc, hoc⟩, low⟩ := from_some h
    symm
    rw [minL_some]
    refine ⟨List.mem_map.mpr ⟨c, hc, hoc⟩, fun b' hb' => ?_⟩
    obtain ⟨d, hd, hod⟩ := List.mem_map.mp hb'
    exact low d hd b' hod
  | none =>
    cases h2 : minL (cs.map fun c => costW (o c)) with
    | none => rfl
    | some b =>
      obtain ⟨c, hc, hoc⟩ := List.mem_map.mp (minL_some.mp h2).1
      obtain ⟨b', hb', _⟩ := from_le hc hoc
      rw [h] at hb'
      cases hb'
/-! ### edges -/
abbrev Edge := Nat × Str × List Nat
def edgesF (c : Str) : Nat → List Nat → List Ent → List Edge
  | k, btw, [] => [(k, c, btw)]
  | k, btw, e :: rest => (if c ∈ e.rs then [(k, c, btw)] else []) ++ edgesF c (k + 1) (if c ∈ e.ws then btw ++ [k] else btw) rest
def prAt (es : List Ent) (k : Nat) : Cost := match es[k]? with
  | some e => e.pr
  | none => none
def total : List Cost → Cost
  | [] => some 0
  | x :: l => addC x (total l)
theorem total_app : ∀ l m : List Cost, total (l ++ m) = addC (total l) (total m)
  | [], m => (addC_zero _).symm
  | x :: l, m => by
    show addC x (total (l ++ m)) = addC (addC x (total l)) (total m)
    rw [total_app l m, addC_assoc]
/-- what is paid from the entry at k on -/
def labAt (es : List Ent) (k : Nat) : Cost := match es[k]? with
  | some e => if e.isW then costW (wayFrom (onB (es.drop (k + 1))) e.ws) else some 0
  | none => some 0
def edgeC (es : List Ent) (x : Edge) : Cost := addC (total (x.2.2.map (prAt es))) (labAt es x.1)
theorem cost_reads (e : Ent) (w : Way) (o : Str → Way) (c : Str) : costW (readers e w o c) = if c ∈ e.rs then minC (costW w) (costW (o c)) else costW (o c) := by
  unfold readers
  by_cases hc : c ∈ e.rs
  · rw [if_pos hc, if_pos hc]
    match w with
    | none => rfl
    | some (k, p) =>
      show costW (better _ (o c)) = _
      rw [cost_better]
      show _ = minC (some k) _
      cases costW (o c) <;> rfl
  · rw [if_neg hc, if_neg hc]
theorem cost_past_add (pr : Option Int) (w : Way) : costW (past pr w) = addC pr (costW w) := by
  match w, pr with
  | none, none => rfl
  | none, some i => rfl
  | some (k, p), none => rfl
  | some (k, p), some i =>
    show some (k + i) = some (i + k)
    rw [Int.add_comm]
def labE (e : Ent) (rest : List Ent) : Cost := if e.isW then costW (wayFrom (onB rest) e.ws) else some 0
def blkE (e : Ent) (rest : List Ent) (c : Str) : Cost := if c ∈ e.ws then addC e.pr (costW (onB rest c)) else costW (onB rest c)
theorem cost_on (e : Ent) (rest : List Ent) (c : Str) : costW (onB (e :: rest) c) = if c ∈ e.rs then minC (labE e rest) (blkE e rest c) else blkE e rest c := by
  cases e with
  | wr id rs ws pr =>
    have hb : costW (blocked (.wr id rs ws pr) (onB rest) c) = blkE (.wr id rs ws pr) rest c := by
      unfold blocked blkE
      by_cases hc : c ∈ (Ent.wr id rs ws pr).ws
      · rw [if_pos hc, if_pos hc]
        exact cost_past_add _ _
      · rw [if_neg hc, if_neg hc]
    rw [← hb]
    exact cost_reads _ _ _ _
  | qu id cs =>
    have hb : costW (onB rest c) = blkE (.qu id cs) rest c := by
      unfold blkE
      rw [if_neg (by intro z; cases z)]
    rw [← hb]
    exact cost_reads (.qu id cs) (some (0, [])) (onB rest) c
theorem edges_min (es : List Ent) (c : Str) : ∀ (rest : List Ent) (k : Nat) (btw : List Nat), es.drop k = rest → minL ((edgesF c k btw rest).map (edgeC es)) = addC (total (btw.map (prAt es))) (costW (onB rest c))
  | [], k, btw, h => by
    have hk : es[k]? = none := by
      rw [List.getElem?_eq_none]
      have := congrArg List.length h
      rw [List.length_drop] at this
      simp at this
      omega
    show minC (edgeC es (k, c, btw)) none = _
    rw [minC_none]
    unfold edgeC labAt
    rw [hk]
    rfl
  | e :: rest, k, btw, h => by
    have hlt : k < es.length := by
      rcases Nat.lt_or_ge k es.length with h1 | h1
      · exact h1
      · rw [List.drop_eq_nil_of_le h1] at h; cases h
    rw [List.drop_eq_getElem_cons hlt] at h
    obtain ⟨he, hr⟩ := List.cons.inj h
    have hk : es[k]? = some e := by rw [List.getElem?_eq_getElem hlt, he]
    have ih := edges_min es c rest (k + 1) (if c ∈ e.ws then btw ++ [k] else btw) hr
    have hl : edgeC es (k, c, btw) = addC (total (btw.map (prAt es))) (labE e rest) := by
      unfold edgeC labAt labE
      rw [hk, hr]
    have hb : addC (total ((if c ∈ e.ws then btw ++ [k] else btw).map (prAt es))) (costW (onB rest c)) = addC (total (btw.map (prAt es))) (blkE e rest c) := by
      unfold blkE
      by_cases hc : c ∈ e.ws
      · rw [if_pos hc, if_pos hc, List.map_append, total_app, addC_assoc]
        congr 1
        show addC (addC (prAt es k) (some 0)) _ = _
        rw [addC_comm (prAt es k), addC_zero]
        unfold prAt
        rw [hk]
      · rw [if_neg hc, if_neg hc]
    rw [hb] at ih
    rw [cost_on]
    show minL (((if c ∈ e.rs then [(k, c, btw)] else []) ++ edgesF c (k + 1) (if c ∈ e.ws then btw ++ [k] else btw) rest).map (edgeC es)) = _
    rw [List.map_append, minL_app, ih]
    by_cases hc : c ∈ e.rs
    · rw [if_pos hc, if_pos hc, addC_min]
      congr 1
      show minC (edgeC es (k, c, btw)) none = _
      rw [minC_none, hl]
    · rw [if_neg hc, if_neg hc]
      rfl
def edgesL (es : List Ent) (one : Nat) : List Edge := match es[one]? with
  | some e => e.ws.flatMap fun c => edgesF c (one + 1) [] (es.drop (one + 1))
  | none => []
theorem edgesL_min {es : List Ent} {one : Nat} {e : Ent} (h : es[one]? = some e) : minL ((edgesL es one).map (edgeC es)) = costW (wayFrom (onB (es.drop (one + 1))) e.ws) := by
  unfold edgesL
  rw [h, from_min]
  dsimp only
  generalize e.ws = cs
  induction cs with
  | nil => rfl
  | cons c cs ih =>
    rw [List.flatMap_cons, List.map_append, minL_app, ih, List.map_cons]
    show _ = minC _ (minL (cs.map _))
    congr 1
    rw [edges_min es c _ _ _ rfl]
    exact addC_zero _
/-- what the loop makes of an edge -/
theorem total_none {l : List Cost} (h : none ∈ l) : total l = none := by
  induction l with
  | nil => cases h
  | cons x l ih =>
    show addC x (total l) = none
    rcases List.mem_cons.mp h with z | z
    · rw [← z]; rfl
    · rw [ih z]; cases x <;> rfl
theorem total_sum : ∀ {l : List Int}, total (l.map some) = some l.sum
  | [] => rfl
  | x :: l => by
    show addC (some x) (total (l.map some)) = _
    rw [total_sum]
    rfl
end NV
/-! Y1 -/
set_option Elab.async false
set_option linter.all false
set_option maxRecDepth 100000
set_option maxHeartbeats 600000
/-! the package's kept_entries -/
namespace NV
open PySem PySem.Spec PyProof.Rows L2
open C8 (pss_cut pe_gc)
abbrev sKeptEntries : Stmt := topS 50
theorem scKeptEntries : FnScope ["log", "budget", "ways", "entry"] ["log", "budget"] (defScope sKeptEntries) := ⟨rfl, rfl, rfl, by decide +kernel, rfl, by decide +kernel, by decide +kernel⟩
/-! ### what is kept, by position -/
def keepAt (B : Int) (es : List Ent) (d : Ent) (j : Nat) : Bool := keeps B (es.getD j d) (onB (es.drop (j + 1)))
theorem kept_range (B : Int) (d : Ent) : ∀ es : List Ent, keptB B es = ((List.range es.length).filter (keepAt B es d)).map fun j => es.getD j d
  | [] => rfl
  | e :: M => by
    have ih := kept_range B d M
    show (if keeps B e (onF M endW) then [e] else []) ++ keptB B M = _
    rw [List.length_cons, List.range_succ_eq_map, List.filter_cons]
    have h0 : keepAt B (e :: M) d 0 = keeps B e (onF M endW) := by
      unfold keepAt
      rw [onB_F]
      rfl
    have hm : ((List.range M.length).map Nat.succ).filter (keepAt B (e :: M) d) = ((List.range M.length).filter (keepAt B M d)).map Nat.succ := by
      rw [List.filter_map]
      rfl
    have ht : (((List.range M.length).filter (keepAt B M d)).map Nat.succ).map (fun j => (e :: M).getD j d) = keptB B M := by
      rw [ih, List.map_map]
      rfl
    rw [h0, hm]
    cases keeps B e (onF M endW) with
    | true =>
      rw [if_pos rfl, if_pos rfl, List.map_cons, ht]
      rfl
    | false =>
      rw [if_neg (by simp), if_neg (by simp), ht]
      rfl
theorem rp_pick {ex : List Addr} {H : Hp} {es : List Ent} {xs : List V} (hx : RpAll ex H (es.map Ent.data) xs) (d : Ent) : ∀ l : List Nat, (∀ j ∈ l, j < es.length) → RpAll ex H ((l.map fun j => es.getD j d).map Ent.data) (l.map fun j => xs.getD j .non)
  | [], _ => rfl
  | j :: l, h => by
    have hj := h j List.mem_cons_self
    obtain ⟨v, hv, rv⟩ := RpAll.at hx (show (es.map Ent.data)[j]? = some (es.getD j d).data by rw [List.getElem?_map, List.getD_eq_getElem?_getD, List.getElem?_eq_getElem hj]; rfl)
    refine ⟨v, _, ?_, rv, rp_pick hx d l fun i hi => h i (List.mem_cons_of_mem _ hi)⟩
    rw [List.map_cons, List.getD_eq_getElem?_getD, hv]
    rfl
def spKept : Sp := fun vs H Q _ => ∃ (v : V) (es : List Ent) (ex : List Addr) (B : Int), vs = [v, .int B] ∧ Rp ex H (logD es) v ∧ LogOk es ∧ es.length ≤ 60 ∧ Live ex H ∧ ∀ p H', Kp [] H H' → Rp ex H' (logD (keptB B es)) (.ref p) → Q (.ref p) H'
section
variable {P : Program} {w : World} {K : PySem.W.Frag} {mg : Str → Option Value} {base : Heap}
theorem ok_kept (DKeptEntries : Fn K mg "kept_entries" sKeptEntries ["log", "budget"]) (DCheapestWays : FnD K mg "cheapest_ways" sCheapestWays ["log", "labels"] [.non]) (DIsWithin : Fn K mg "is_within" sIsWithin ["way", "budget"]) (b_tuple : mg "tuple" = none)
    (g0 : ∃ u, mg "KIND" = some u ∧ L2.RelV (.int 0) u) (g1 : ∃ u, mg "ID" = some u ∧ L2.RelV (.int 1) u)
    (GCheapestWays : FnOk P w K mg base CX0 4 DCheapestWays.f DCheapestWays.fd ["log", "labels"] spWays) (GIsWithin : FnOk P w K mg base CX0 1 DIsWithin.f DIsWithin.fd ["way", "budget"] spIn) :
    FnOk P w K mg base CX0 5 DKeptEntries.f DKeptEntries.fd ["log", "budget"] spKept := by
  refine DKeptEntries.F.ok scKeptEntries (fun vs H Q E h => ?_) (fun cdv A outer s H vs Q E hr h => ?_)
  · obtain ⟨v, es, ex, B, rfl, _⟩ := h
    rfl
  obtain ⟨v, es, ex, B, rfl, rv, ok, h60, lv, q⟩ := h
  have hu := hu_of hr
  refine ⟨_, pss_cons (ps_set (i := 2) scKeptEntries.nd rfl (.inr rfl) (pe_fd DCheapestWays GCheapestWays hr (pa_cons (pv 0) pa_nil)))
      (pss_one (ps_ret (pe_callTy call_tuple_of (by rfl) b_tuple (by decide +kernel) (pa_cons (pe_lc (own := [("entry", 3)]) (g := gName 3) (by rfl) scKeptEntries.nd (piTupE K (pv 0)) (blkOk_by (N := ["log", "budget", "ways", "entry"]) (sc := defScope sKeptEntries) (by decide +kernel)) (fun _ _ _ _ _ => (pg_name (i := 3) scKeptEntries.nd rfl (.inl rfl))) (fun _ _ _ _ _ => (pts_one (PW.pt (pw_or (pt_cmpR op_eq (pe_ix (ixtE K) (pv 3) (pe_gc (v := .int 0) rfl g0) (fun _ _ => rfl)) pe_str (nomark _)) (pw_or1 (pt_val (pe_fn DIsWithin GIsWithin hr (pa_cons (pe_dget hu (pv 2) (pe_ix (ixtE K) (pv 3) (pe_gc (v := .int 1) rfl g1) (fun _ _ => rfl)) (fun _ _ => rfl)) (pa_cons (pv 1) pa_nil))))))))) (fun _ _ _ _ _ => (pv 3))) pa_nil)))), ?_⟩
  refine ⟨_, rfl, v, es, ex, rfl, rv, ok.ok, ok.nd, by omega, lv, fun wd H2 k2 nwd ws => ?_⟩
  obtain ⟨a, xs, rfl, na, ha, hx⟩ := Rp.keep (k2.mono (ex' := ex) (by simp)) _ _ rv
  have lv2 := lv.kp0 k2
  obtain ⟨kvs, ek, names, vals⟩ := ws.at_
  have hl : es.length = xs.length := by
    have := hx.length
    rwa [List.length_map] at this
  have line : (1000 : Nat) < sizeLine := by decide
  let d0 : Ent := .qu "" []
  refine ⟨_, rfl, a, rfl, ⟨xs, .inl (.inl ha)⟩, fun C nC => ?_⟩
  refine lc_growT (fun j => keepAt B es d0 j) (fun j => xs.getD j .non) (.inl (.inl ha)) nC (by omega) (fun j x H8 Q8 hxj k8 q8 => ?_) (fun j x H8 Q8 hxj hpj k8 q8 => ?_) fun H8 k8 e8 => ?_
  · have hj : j < es.length := by
      have := (List.getElem?_eq_some_iff.mp hxj).1
      omega
    have hej : es[j]? = some (es.getD j d0) := by rw [List.getD_eq_getElem?_getD, List.getElem?_eq_getElem hj]; rfl
    generalize he : es.getD j d0 = e at hej
    have rx : Rp ex H2 e.data x := by
      obtain ⟨v, hv, rv⟩ := RpAll.at hx (show (es.map Ent.data)[j]? = some e.data by rw [List.getElem?_map, hej]; rfl)
      rw [hxj] at hv
      rw [Option.some.inj hv]
      exact rv
    have r8 := Rp.keep (k8.mono (ex' := C :: ex) (by simp)) _ _ (Rp.apart nC _ _ rx)
    obtain ⟨ds, ed, hd0⟩ := ent_kind e
    obtain ⟨d1, ed1, hd1, _⟩ := ent_reads e
    refine ⟨_, rfl, c_of (ent_ix r8 ed hd0 rfl fun vk rk => ?_)⟩
    obtain rfl : vk = .str (if e.isW then "write" else "query") := rk
    refine ⟨rfl, _, rfl, ?_⟩
    have hp : keepAt B es d0 j = keeps B e (onB (es.drop (j + 1))) := by
      unfold keepAt
      rw [he]
    rw [hp] at q8
    cases hw : e.isW with
    | false =>
      rw [show decide (V.str (if false = true then ("write" : Str) else "query") = V.str "query") = true from decide_eq_true rfl]
      refine iteT ?_
      have : keeps B e (onB (es.drop (j + 1))) = true := by
        unfold keeps
        rw [hw]
        rfl
      rw [this] at q8
      exact q8 _ Kp.refl
    | true =>
      rw [show decide (V.str (if true = true then ("write" : Str) else "query") = V.str "query") = false from decide_eq_false (by intro h; exact absurd (V.str.inj h) (by decide))]
      have hm := ways_mem (pre := es.take j) (rest := es.drop (j + 1)) hw
      rw [← split_at_ hej] at hm
      obtain ⟨u, hu1, ru⟩ := way_val (ways_nd ok.nd) names vals hm
      have nwC : wd ≠ C := fun z => by rw [← z, ek] at nC; cases nC
      refine iteF ⟨_, rfl, _, rfl, c_of (ent_ix r8 ed1 hd1 rfl fun vi ri => ?_)⟩
      obtain rfl : vi = .str e.id := ri
      refine ⟨wd, u, rfl, by rw [← hu1]; exact DGet.k (k := Sum.inr e.id) (k8 _ _ (by simpa using nwC) ek), _, rfl, u, _, C :: ex, B, rfl, Rp.keep (k8.mono (ex' := C :: ex) (by simp)) _ _ (Rp.apart nC _ _ ru), _, rfl, ?_⟩
      have : keeps B e (onB (es.drop (j + 1))) = within B (costW (wayFrom (onB (es.drop (j + 1))) e.ws)) := by
        unfold keeps
        rw [hw]
        rfl
      rw [this] at q8
      exact q8 _ Kp.refl
  · refine ⟨x, rfl, ?_⟩
    have : xs.getD j .non = x := by rw [List.getD_eq_getElem?_getD, hxj]; rfl
    rw [← this]
    exact q8 _ Kp.refl
  · have k28 : Kp [] H2 H8 := Kp.drop k8 nC
    have hx8 : RpAll ex H8 (es.map Ent.data) xs := RpAll.keep (k28.mono (by simp)) _ _ hx
    have hp := rp_pick hx8 d0 ((List.range es.length).filter (keepAt B es d0)) fun j hj => List.mem_range.mp (List.mem_filter.mp hj).1
    rw [← kept_range] at hp
    rw [← hl] at e8
    refine ⟨C, _, rfl, .inl ⟨.inl (.inl e8), fun l nl => ?_⟩⟩
    have kl : Kp [] H8 (upd H8 l (.tup (((List.range es.length).filter fun j => keepAt B es d0 j).map fun j => xs.getD j .non))) := Kp.laid nl
    exact q l _ ((k2.trans k28).trans kl) (rp_new ((lv2.kp0 k28).fresh nl) nl hp)
end
end NV
/-! Q5 -/
set_option Elab.async false
set_option linter.all false
set_option maxRecDepth 100000
set_option maxHeartbeats 600000
/-! the package's is_entry -/
namespace NV
open PySem PySem.Spec PyProof.Rows L2
open C8 (pss_cut pe_gc)
abbrev sIsEntry : Stmt := topS 28
theorem scIsEntry : FnScope ["value"] ["value"] (defScope sIsEntry) := ⟨rfl, rfl, rfl, by decide +kernel, rfl, by decide +kernel, by decide +kernel⟩
section
variable {P : Program} {w : World} {K : PySem.W.Frag} {mg : Str → Option Value} {base : Heap}
theorem ok_pentry (DIsEntry : Fn K mg "is_entry" sIsEntry ["value"]) (DIsEntryWith : Fn K mg "is_entry_with" sIsEntryWith ["value", "known"]) (GIsEntryWith : FnOk P w K mg base CX0 4 DIsEntryWith.f DIsEntryWith.fd ["value", "known"] spEntryK) :
    FnOk P w K mg base CX0 5 DIsEntry.f DIsEntry.fd ["value"] (spAskD entryD) := by
  refine DIsEntry.F.ok scIsEntry (fun vs H Q E h => ?_) (fun cdv A outer s H vs Q E hr h => ?_)
  · obtain ⟨v, d, ex, rfl, _⟩ := h
    rfl
  obtain ⟨v, d, ex, rfl, hd, hn, q⟩ := h
  refine ⟨_, pss_one (ps_ret (pe_fn DIsEntryWith GIsEntryWith hr (pa_cons (pv 0) (pa_cons pe_dnewK pa_nil)))), ?_⟩
  refine ⟨_, rfl, fun kd nk => ?_⟩
  have k0 : Kp [] H (upd H kd (.dK [])) := Kp.laid nk
  refine ⟨v, d, kd :: ex, kd, 0, rfl, Rp.keep (k0.mono (by simp)) _ _ (Rp.apart nk _ _ hd), hn, by simp, ⟨[], upd_same, (fun z hz => by cases hz), Nat.le_refl _⟩, by omega, fun H' k1 _ => q H' ?_⟩
  exact Kp.drop ((k0.mono (by simp)).trans k1) nk
end
end NV
/-! EntAt -/
set_option Elab.async false
set_option linter.all false
set_option maxRecDepth 100000
set_option maxHeartbeats 400000
/-! an entry of the log, by position -/
namespace NV
open PySem PySem.Spec PyProof.Rows L2
theorem ent_at {ex : List Addr} {H : Hp} {es : List Ent} {xs : List V} {k : Nat} {e : Ent} (hx : RpAll ex H (es.map Ent.data) xs) (h : es[k]? = some e) : ∃ v, xs[k]? = some v ∧ Rp ex H e.data v := RpAll.at hx (by rw [List.getElem?_map, h]; rfl)
/-- an entry of the log, by position -/
theorem ix_ent {K : PySem.W.Frag} {ex : List Addr} {H : Hp} {a : Addr} {xs : List V} {es : List Ent} {k : Nat} {e : Ent} {Q : VK} (ha : H a = some (.tup xs)) (hx : RpAll ex H (es.map Ent.data) xs) (h : es[k]? = some e) (q : ∀ v, Rp ex H e.data v → Q v H) : rIxT K (.ref a) (.int (k : Nat)) H Q :=
  ixD (j := k) rfl ha hx (by rw [List.getElem?_map, h]; rfl) q
theorem kind_w (b : Bool) : decide (V.str (if b = true then ("write" : Str) else "query") = V.str "write") = b := by
  cases b with
  | true => exact decide_eq_true rfl
  | false => exact decide_eq_false (by intro h; exact absurd (V.str.inj h) (by decide))
theorem in_names {K : PySem.W.Frag} {H : Hp} {a : Addr} {zs : List Str} {c : Str} {Q : VK} (ha : H a = some (.tup (zs.map V.str))) (q : Q (.bl (decide (c ∈ zs))) H) : rIn K false (.str c) (.ref a) H Q := by
  refine ⟨a, _, rfl, .inr (.inl (.inl ha)), rfl, ?_, ?_⟩
  · rw [List.all_map]
    exact List.all_eq_true.mpr fun x _ => rfl
  · have e : inV (.str c) (zs.map V.str) = decide (c ∈ zs) := by
      unfold inV
      rw [List.any_map, Bool.eq_iff_iff, List.any_eq_true, decide_eq_true_iff]
      constructor
      · rintro ⟨y, hy, h⟩
        have h : (y == c) = true := h
        rw [← eq_of_beq h]
        exact hy
      · intro h
        exact ⟨c, h, by show (c == c) = true; exact beq_self_eq_true c⟩
    rw [if_neg Bool.false_ne_true, e]
    exact q
theorem len_data {ex : List Addr} {H : Hp} {es : List Ent} {xs : List V} (hx : RpAll ex H (es.map Ent.data) xs) : es.length = xs.length := by
  have := hx.length
  rwa [List.length_map] at this
end NV
/-! V4m -/
set_option Elab.async false
set_option linter.all false
set_option maxRecDepth 100000
set_option maxHeartbeats 1000000
/-! the package's check_may_be_retracted, asked rightly (out of V4) -/
namespace NV
open PySem PySem.Spec PyProof.Rows L2
open C8 (pss_cut pe_gc)
abbrev sCheckMayBeRetracted : Stmt := topS 37
theorem scCheckMayBeRetracted : FnScope ["entry"] ["entry"] (defScope sCheckMayBeRetracted) := ⟨rfl, rfl, rfl, by decide +kernel, rfl, by decide +kernel, by decide +kernel⟩
def spMayBe : Sp := fun vs H Q _ => ∃ (v : V) (e : Ent) (ex : List Addr), vs = [v] ∧ Rp ex H e.data v ∧ e.isW = true ∧ e.pr ≠ none ∧ Q .non H
section
variable {P : Program} {w : World} {K : PySem.W.Frag} {mg : Str → Option Value} {base : Heap}
theorem ok_maybe (DCheckMayBeRetracted : Fn K mg "check_may_be_retracted" sCheckMayBeRetracted ["entry"]) (g0 : ∃ u, mg "KIND" = some u ∧ L2.RelV (.int 0) u) (g4 : ∃ u, mg "PRICE" = some u ∧ L2.RelV (.int 4) u) :
    FnOk P w K mg base CX0 1 DCheckMayBeRetracted.f DCheckMayBeRetracted.fd ["entry"] spMayBe := by
  refine DCheckMayBeRetracted.F.ok scCheckMayBeRetracted (fun vs H Q E h => ?_) (fun cdv A outer s H vs Q E hr h => ?_)
  · obtain ⟨v, e, ex, rfl, _⟩ := h
    rfl
  obtain ⟨v, e, ex, rfl, rv, hw, hp, q⟩ := h
  refine ⟨_, pss_cons (ps_if (pt_cmpR op_eq (pe_ix (ixtE K) (pv 0) (pe_gc (v := .int 0) rfl g0) (fun _ _ => rfl)) pe_str (nomark _))
      (pss_one (ps_dead _))
      pss_nil)
      (pss_one (ps_if (pt_cmpR op_isN (pe_ix (ixtE K) (pv 0) (pe_gc (v := .int 4) rfl g4) (fun _ _ => rfl)) pe_non (nomark _))
      (pss_one (ps_dead _))
      pss_nil)), ?_⟩
  obtain ⟨d0, ed0, hd0⟩ := ent_kind e
  obtain ⟨d4, ed4, _, hd4⟩ := ent_writes hw
  refine ⟨_, rfl, c_of (ent_ix rv ed0 hd0 rfl fun vk rk => ?_)⟩
  obtain rfl : vk = .str (if e.isW then "write" else "query") := rk
  refine ⟨rfl, _, rfl, ?_⟩
  rw [hw, show decide (V.str (if true = true then ("write" : Str) else "query") = V.str "query") = false from decide_eq_false (by intro h; exact absurd (V.str.inj h) (by decide))]
  refine iteF ⟨_, rfl, c_of (ent_ix rv ed4 hd4 rfl fun u ru => ?_)⟩
  cases hpr : e.pr with
  | none => exact absurd hpr hp
  | some i =>
    rw [hpr] at ru
    obtain rfl : u = .int i := ru
    exact ⟨rfl, _, rfl, iteF q⟩
end
end NV
/-! U0 -/
set_option Elab.async false
set_option linter.all false
set_option maxRecDepth 100000
set_option maxHeartbeats 600000
/-! items of lists; merged dicts; a branch taken (out of U1, U2) -/
namespace NV
open PySem PySem.Spec PyProof.Rows L2
open C8 (pss_cut pe_gc)
/-- an item of a list, by its place -/
theorem ix_lst {K : PySem.W.Frag} {H : Hp} {p : Addr} {xs : List V} {x : V} {j : Nat} {i : Int} {Q : VK} (hp : H p = some (.lst xs)) (hx : xs[j]? = some x) (ei : i = (j : Int)) (q : Q x H) : rIxL K (.ref p) (.int i) H Q := by
  subst ei
  exact ⟨p, xs, _, x, rfl, rfl, .inl (.inl hp), atI_nat hx, q⟩
theorem in_lst {K : PySem.W.Frag} {H : Hp} {a : Addr} {zs : List Str} {c : Str} {Q : VK} (neg : Bool) (ha : H a = some (.lst (zs.map V.str))) (q : Q (.bl (if neg then decide (c ∉ zs) else decide (c ∈ zs))) H) : rIn K neg (.str c) (.ref a) H Q := by
  refine ⟨a, _, rfl, .inl (.inl (.inl ha)), rfl, ?_, ?_⟩
  · rw [List.all_map]
    exact List.all_eq_true.mpr fun x _ => rfl
  · have e : inV (.str c) (zs.map V.str) = decide (c ∈ zs) := by
      unfold inV
      rw [List.any_map, Bool.eq_iff_iff, List.any_eq_true, decide_eq_true_iff]
      constructor
      · rintro ⟨y, hy, h⟩
        have h : (y == c) = true := h
        rw [← eq_of_beq h]
        exact hy
      · intro h
        exact ⟨c, h, by show (c == c) = true; exact beq_self_eq_true c⟩
    rw [e]
    cases neg with
    | false => exact q
    | true =>
      have : (!decide (c ∈ zs)) = decide (c ∉ zs) := by by_cases h : c ∈ zs <;> simp [h]
      rw [if_pos rfl, this]
      exact q
theorem mergeK_nodup : ∀ (l kvs : List (L2.Key × V)), (kvs.map (·.1) ++ l.map (·.1)).Nodup → mergeK kvs l = kvs ++ l
  | [], kvs, _ => by
    rw [List.append_nil]
    rfl
  | p :: l, kvs, h => by
    show mergeK (putK kvs p.1 p.2) l = _
    have hn : p.1 ∉ kvs.map (·.1) := fun z => by
      rw [List.nodup_append] at h
      exact h.2.2 _ z _ List.mem_cons_self rfl
    have nk : valV kvs p.1 = none := by
      cases hv : valV kvs p.1 with
      | none => rfl
      | some v =>
        have ha : (kvs.any fun kv => decide (kv.1 = p.1)) = true := by rw [valV_any, hv]; rfl
        obtain ⟨x, hx, hd⟩ := List.any_eq_true.mp ha
        exact absurd (List.mem_map.mpr ⟨x, hx, of_decide_eq_true hd⟩) hn
    rw [putK_new _ nk, mergeK_nodup l _ ?_, List.append_assoc]
    · rfl
    · rw [List.map_append, List.append_assoc]
      exact h
theorem valV_merge (v : V) (k : L2.Key) : ∀ (l kvs : List (L2.Key × V)), (∀ p ∈ l, p.2 = v) → valV (mergeK kvs l) k = if (l.any fun p => decide (p.1 = k)) = true then some v else valV kvs k
  | [], kvs, _ => rfl
  | p :: l, kvs, h => by
    show valV (mergeK (putK kvs p.1 p.2) l) k = _
    rw [valV_merge v k l _ fun q hq => h q (List.mem_cons_of_mem _ hq), valV_put, h p List.mem_cons_self, List.any_cons]
    by_cases h1 : (l.any fun p => decide (p.1 = k)) = true
    · rw [if_pos h1, h1, Bool.or_true, if_pos rfl]
    · rw [if_neg h1]
      by_cases h2 : k = p.1
      · rw [if_pos h2, decide_eq_true h2.symm, Bool.true_or, if_pos rfl]
      · rw [if_neg h2, decide_eq_false (fun z => h2 z.symm), Bool.false_or, if_neg h1]
theorem if_t {A B : Prop} (h : A) : if true = true then A else B := by rw [if_pos rfl]; exact h
theorem if_f {A B : Prop} (h : B) : if false = true then A else B := by rw [if_neg Bool.false_ne_true]; exact h
end NV
/-! LcR -/
set_option Elab.async false
set_option linter.all false
set_option maxRecDepth 100000
set_option maxHeartbeats 600000
/-! a comprehension over texts that makes a tuple at each turn -/
namespace NV
open PySem PySem.Spec PyProof.Rows L2
/-- a triple laid after a list's items -/
theorem RpAll.laid {ex : List Addr} {H : Hp} {ds : List PyData} {vs ws : List V} {es : List PyData} {T : Addr} (h : RpAll ex H ds vs) (nT : H T = none) (lv : Live ex H) (hw : RpAll ex H es ws) : RpAll ex (upd H T (.tup ws)) (ds ++ [.tuple es]) (vs ++ [.ref T]) := by
  have kT : Kp [] H (upd H T (.tup ws)) := Kp.laid nT
  refine RpAll.app (RpAll.keep (kT.mono (by simp)) _ _ h) ⟨_, [], rfl, ⟨T, ws, rfl, fun z => lv T z nT, upd_same, RpAll.keep (kT.mono (by simp)) _ _ hw⟩, rfl⟩
/-- what is gone through: texts, by their places, the heap as it was -/
structure TxtIt (J : It) (zs : List Str) (H1 : Hp) : Prop where
  go : ∀ j H, Kp [] H1 H → j < zs.length → J.go j H
  stop : ∀ H, Kp [] H1 H → J.stop zs.length H
  yld : ∀ j H x H', Kp [] H1 H → j < zs.length → J.yld j H x H' → H' = H ∧ ∃ c, zs[j]? = some c ∧ x = .str c
theorem txt_at {zs : List Str} {j : Nat} {x : V} (h : (zs.map V.str)[j]? = some x) : ∃ c, zs[j]? = some c ∧ x = .str c := by
  rw [List.getElem?_map] at h
  cases hc : zs[j]? with
  | none => rw [hc] at h; cases h
  | some c => rw [hc] at h; exact ⟨c, rfl, (Option.some.inj h).symm⟩
theorem txt_tup {K : PySem.W.Frag} {a : Addr} {zs : List Str} {H1 : Hp} (h : H1 a = some (.tup (zs.map V.str))) : TxtIt (Itt K a) zs H1 where
  go := fun j H k hj => ⟨_, V.str zs[j], .inl (.inl (k _ _ (by simp) h)), by rw [List.getElem?_map, List.getElem?_eq_getElem hj]; rfl⟩
  stop := fun H k => ⟨_, .inl (.inl (k _ _ (by simp) h)), by rw [List.length_map]; exact Nat.le_refl _⟩
  yld := fun j H x H' k hj y => ⟨y.1, txt_at (y.2 _ (.inl (.inl (k _ _ (by simp) h))))⟩
theorem txt_lst {K : PySem.W.Frag} {a : Addr} {zs : List Str} {H1 : Hp} (h : H1 a = some (.lst (zs.map V.str))) : TxtIt (Itl K a) zs H1 where
  go := fun j H k hj => ⟨_, V.str zs[j], .inl (.inl (k _ _ (by simp) h)), by rw [List.getElem?_map, List.getElem?_eq_getElem hj]; rfl⟩
  stop := fun H k => ⟨_, .inl (.inl (k _ _ (by simp) h)), by rw [List.length_map]; exact Nat.le_refl _⟩
  yld := fun j H x H' k hj y => ⟨y.1, txt_at (y.2 _ (.inl (.inl (k _ _ (by simp) h))))⟩
theorem lc_rows {J : It} {te : TE} {i : Nat} {σ : L2.St} {C : Addr} {H1 : Hp} {Qd : Hp → Prop} {zs : List Str} {ex : List Addr} (f : Str → List PyData) (hJ : TxtIt J zs H1) (nC : H1 C = none) (lv : Live ex H1) (hz : zs.length < 1000) (hw : ∀ x, wipe ((wipe σ [i]).set i x) [i] = wipe σ [i])
    (hs : ∀ c H Q, c ∈ zs → Kp [] H1 H → (∀ T vs, H T = none → RpAll (C :: ex) H (f c) vs → Q (.ref T) (upd H T (.tup vs))) → te ((wipe σ [i]).set i (some (.str c))) H Q)
    (hd : ∀ H vs, Kp [] H1 H → H C = some (.lst vs) → RpAll (C :: ex) H (zs.map fun c => .tuple (f c)) vs → Qd H) :
    ∃ W : Nat → Nat → Hp → Prop, (∃ m, W 0 m (upd H1 C (.lst []))) ∧ ∀ i_1 m H, W i_1 m H →
      (J.stop i_1 H ∧ Qd H) ∨ (J.go i_1 H ∧ ∃ Nx : Hp → Prop, (∀ H', Nx H' → ∃ m', m' < m ∧ W (i_1 + 1) m' H') ∧ ∀ x H', J.yld i_1 H x H' → gName i x (wipe σ [i]) H' fun σ2 H2 => wipe σ2 [i] = wipe σ [i] ∧ tYes σ2 H2 fun b H3 =>
        if b = true then te σ2 H3 fun y H4 => ∃ acc, H4 C = some (.lst acc) ∧ acc.length < sizeLine ∧ Nx (upd H4 C (.lst (acc ++ [y]))) else Nx H3) := by
  have line : (100000 : Nat) < sizeLine := by decide
  have lvC : ∀ {H : Hp}, Kp [C] (upd H1 C (.lst [])) H → H C ≠ none → Live (C :: ex) H := fun k hC b hb => by
    rcases List.mem_cons.mp hb with e | e
    · rw [e]; exact hC
    · have kH : Kp [] H1 _ := Kp.drop (((Kp.laid (ex := []) nC).mono (by simp)).trans k) nC
      exact lv.kp0 kH b e
  have dC : ∀ {H : Hp}, Kp [C] (upd H1 C (.lst [])) H → Kp [] H1 H := fun k => Kp.drop (((Kp.laid (ex := []) nC).mono (by simp)).trans k) nC
  refine lc_inv zs.length (fun n H => Kp [C] (upd H1 C (.lst [])) H ∧ ∃ vs, H C = some (.lst vs) ∧ RpAll (C :: ex) H ((zs.take n).map fun c => .tuple (f c)) vs) ⟨Kp.refl, [], upd_same, rfl⟩ (fun H ⟨k, vs, hC, hr⟩ => ⟨hJ.stop H (dC k), hd H vs (dC k) hC (by rw [List.take_length] at hr; exact hr)⟩) (fun n H hn ⟨k, _⟩ => hJ.go n H (dC k) hn) ?_
  rintro n H x H' hn ⟨k, vs, hC, hr⟩ hy
  obtain ⟨rfl, c, hc, rfl⟩ := hJ.yld n H x H' (dC k) hn hy
  refine ⟨hw _, yes_on (hs c _ _ (List.mem_of_getElem? hc) (dC k) fun T ws nT hws => ?_)⟩
  have kT : Kp [] H' (upd H' T (.tup ws)) := Kp.laid nT
  have hvl : vs.length ≤ zs.length := by
    have := hr.length
    rw [List.length_map, List.length_take] at this
    omega
  refine ⟨vs, kT _ _ (by simp) hC, by omega, (k.trans (kT.mono (by simp))).trans (Kp.put (by simp)), _, upd_same, ?_⟩
  have h1 := RpAll.laid hr nT (lvC k (by rw [hC]; simp)) hws
  have h2 := RpAll.keep (Kp.put (ex := C :: ex) (p := C) (o := .lst (vs ++ [.ref T])) (by simp)) _ _ h1
  rw [List.take_add_one, hc, List.map_append]
  exact h2
end NV
/-! DataOk -/
set_option Elab.async false
set_option linter.all false
set_option maxRecDepth 100000
set_option maxHeartbeats 600000
/-! data within bounds, compared -/
namespace NV
open PySem PySem.Spec PyProof.Rows L2
/-- a text within bounds -/
def TxtOk (z : Str) : Prop := z.length ≤ 100 ∧ PyData.strOk z = true
structure DOk (n : Nat) (d : PyData) : Prop where
  nice : niceD d = true
  lay : d.canLay0 = true
  deep : d.depth ≤ n
theorem DOk.str {n : Nat} {z : Str} (h : TxtOk z) : DOk n (.str z) := ⟨by simp only [niceD, Bool.and_eq_true, decide_eq_true_eq]; exact h, by simp only [PyData.canLay0]; exact h.2, by simp only [PyData.depth]; exact Nat.zero_le _⟩
theorem DOk.non {n : Nat} : DOk n .none := ⟨rfl, rfl, by simp only [PyData.depth]; exact Nat.zero_le _⟩
theorem DOk.all {n : Nat} : ∀ {ds : List PyData}, (∀ d ∈ ds, DOk n d) → niceAll ds = true ∧ PyData.canLayAll0 ds = true ∧ PyData.depthAll ds ≤ n
  | [], _ => ⟨rfl, rfl, by simp only [PyData.depthAll]; exact Nat.zero_le _⟩
  | d :: ds, h => by
    obtain ⟨h1, h2, h3⟩ := DOk.all (ds := ds) fun x hx => h x (List.mem_cons_of_mem _ hx)
    have hd := h d List.mem_cons_self
    refine ⟨?_, ?_, ?_⟩
    · simp only [niceAll, Bool.and_eq_true]
      exact ⟨hd.nice, h1⟩
    · simp only [PyData.canLayAll0, Bool.and_eq_true]
      exact ⟨hd.lay, h2⟩
    · simp only [PyData.depthAll]
      exact Nat.max_le.mpr ⟨hd.deep, h3⟩
theorem DOk.tup {n : Nat} {ds : List PyData} (h : ∀ d ∈ ds, DOk n d) : DOk (n + 1) (.tuple ds) := by
  obtain ⟨h1, h2, h3⟩ := DOk.all h
  exact ⟨by simp only [niceD]; exact h1, by simp only [PyData.canLay0]; exact h2, by simp only [PyData.depth]; omega⟩
theorem DOk.lst {n : Nat} {ds : List PyData} (h : ∀ d ∈ ds, DOk n d) : DOk (n + 1) (.list ds) := by
  obtain ⟨h1, h2, h3⟩ := DOk.all h
  exact ⟨by simp only [niceD]; exact h1, by simp only [PyData.canLay0]; exact h2, by simp only [PyData.depth]; omega⟩
theorem DOk.shaped {n : Nat} {d : PyData} (h : DOk n d) (hn : n ≤ 64 := by decide) : SeqAt.shaped d = true := by
  unfold SeqAt.shaped
  rw [h.lay]
  exact decide_eq_true (Nat.le_trans h.deep hn)
theorem ne_ok {K : PySem.W.Frag} {ex ex' : List Addr} {H : Hp} {v u : V} {d : PyData} {n : Nat} {Q : VK} (h : DOk n d) (hv : Rp ex H d v) (hu : Rp ex' H d u) (q : Q (.bl false) H) (hn : n ≤ 64 := by decide) : rNeD K v u H Q := by
  refine ⟨d, d, Rp.dp _ _ h.nice h.lay hv, Rp.dp _ _ h.nice h.lay hu, h.shaped hn, h.shaped hn, ?_⟩
  rw [SeqAt.eqv_refl _ h.lay]
  exact q
theorem eq_ok {K : PySem.W.Frag} {ex ex' : List Addr} {H : Hp} {v u : V} {d : PyData} {n : Nat} {Q : VK} (h : DOk n d) (hv : Rp ex H d v) (hu : Rp ex' H d u) (q : Q (.bl true) H) (hn : n ≤ 64 := by decide) : rEqD K v u H Q := by
  refine ⟨d, d, Rp.dp _ _ h.nice h.lay hv, Rp.dp _ _ h.nice h.lay hu, h.shaped hn, h.shaped hn, ?_⟩
  rw [SeqAt.eqv_refl _ h.lay]
  exact q
theorem idB_txt {z : Str} (h : idB z = true) : TxtOk z := ⟨by have := (word_len h).1; omega, (word_len h).2⟩
theorem cellB_txt {z : Str} (h : cellB z = true) : TxtOk z := ⟨by have := (word_len h).1; omega, (word_len h).2⟩
theorem nil_txt : TxtOk ("" : Str) := ⟨by decide, by decide +kernel⟩
/-- a list of texts, as data -/
theorem strs_list {ex : List Addr} {H : Hp} {a : Addr} {zs : List Str} (hn : a ∉ ex) (h : H a = some (.lst (zs.map V.str))) : Rp ex H (.list (zs.map PyData.str)) (.ref a) := ⟨a, _, rfl, hn, h, RpAll.strs zs⟩
theorem strs_ok {zs : List Str} (h : ∀ z ∈ zs, TxtOk z) : DOk 1 (.list (zs.map PyData.str)) := DOk.lst fun d hd => by
  obtain ⟨z, hz, rfl⟩ := List.mem_map.mp hd
  exact DOk.str (h z hz)
end NV
/-! EntDk -/
set_option Elab.async false
set_option linter.all false
set_option maxRecDepth 100000
set_option maxHeartbeats 1000000
/-! an entry as data within bounds -/
namespace NV
open PySem PySem.Spec PyProof.Rows L2
theorem Ent.Ok.csOk {e : Ent} (h : e.Ok) : (∀ c ∈ e.rs, cellB c = true) ∧ ∀ c ∈ e.ws, cellB c = true := by
  cases e with
  | wr id rs ws pr => exact ⟨h.2.1.ok, h.2.2.1.ok⟩
  | qu id cs => exact ⟨h.2.ok, fun c hc => by cases hc⟩
theorem cells_dok {zs : List Str} (h : ∀ z ∈ zs, cellB z = true) : DOk 1 (.tuple (zs.map PyData.str)) := DOk.tup fun d hd => by
  obtain ⟨z, hz, rfl⟩ := List.mem_map.mp hd
  exact DOk.str (cellB_txt (h z hz))
theorem ent_dok {e : Ent} (h : e.Ok) : DOk 2 e.data := by
  obtain ⟨h1, h2⟩ := h.csOk
  have hid : TxtOk e.id := by cases e with | wr id rs ws pr => exact idB_txt h.1 | qu id cs => exact idB_txt h.1
  cases e with
  | wr id rs ws pr =>
    refine DOk.tup fun d hd => ?_
    simp only [List.mem_cons, List.not_mem_nil, or_false] at hd
    rcases hd with rfl | rfl | rfl | rfl | rfl
    · exact DOk.str ⟨by decide, by decide +kernel⟩
    · exact DOk.str hid
    · exact cells_dok h1
    · exact cells_dok h2
    · cases hp : pr with
      | none => exact DOk.non
      | some i =>
        have := h.2.2.2 i hp
        refine ⟨?_, rfl, by show (PyData.int i).depth ≤ 1; simp only [PyData.depth]; omega⟩
        show niceD (.int i) = true
        simp only [niceD, decide_eq_true_eq]
        have h3 : i.natAbs ≤ 100 := by omega
        rcases Nat.eq_zero_or_pos i.natAbs with z | z
        · rw [z]; decide
        · have : i.natAbs.log2 < 7 := (Nat.log2_lt (by omega)).mpr (by omega)
          omega
  | qu id cs =>
    refine DOk.tup fun d hd => ?_
    simp only [List.mem_cons, List.not_mem_nil, or_false] at hd
    rcases hd with rfl | rfl | rfl
    · exact DOk.str ⟨by decide, by decide +kernel⟩
    · exact DOk.str hid
    · exact cells_dok h1
end NV
/-! CutLog -/
set_option Elab.async false
set_option linter.all false
set_option maxRecDepth 100000
set_option maxHeartbeats 600000
/-! the first entries of a log, the other ones; a log behind another; two promises of one def -/
namespace NV
open PySem PySem.Spec PyProof.Rows L2
theorem op_catAE {X : Cx} (K : PySem.W.Frag) (h : X.K = K := by rfl) : OpR X (binaryOp .Add) (rCatA K) := by
  rw [← h]; exact op_catA
theorem FnOk.or {CX : CXT} {P : Program} {w : World} {K : PySem.W.Frag} {mg : Str → Option Value} {base : Heap} {k : Nat} {f : Addr} {fd : FuncData} {ps : List Str} {sp sp' : Sp} (A : FnOk P w K mg base CX k f fd ps sp) (B : FnOk P w K mg base CX k f fd ps sp') : FnOk P w K mg base CX k f fd ps (fun vs H Q E => sp vs H Q E ∨ sp' vs H Q E) :=
  ⟨fun vs H Q E h => h.elim (A.len vs H Q E) (B.len vs H Q E), fun A' outer s H args us vs Q E hr e0 hb hv h => h.elim (A.run A' outer s H args us vs Q E hr e0 hb hv) (B.run A' outer s H args us vs Q E hr e0 hb hv)⟩
section
variable {K : PySem.W.Frag} {ex : List Addr} {H : Hp} {es : List Ent} {v : V} {Q : VK} {k : Nat}
theorem cut_take (rv : Rp ex H (logD es) v) (lv : Live ex H) (hk : k ≤ es.length) (q : ∀ p H', Kp [] H H' → Rp ex H' (logD (es.take k)) (.ref p) → Q (.ref p) H') : rSlA K v none (some (k : Int)) H Q := by
  obtain ⟨a, xs, rfl, na, ha, hx⟩ := rv
  have hl : es.length = xs.length := len_data hx
  refine ⟨a, xs, rfl, .inl (.inl ha), fun h => ?_, fun _ p np => ?_⟩
  · have h2 := h.2
    rw [HT.sIx_nat] at h2
    have e : es.take k = es := List.take_of_length_le (by omega)
    rw [e] at q
    exact q a H Kp.refl ⟨a, xs, rfl, na, ha, hx⟩
  · have kp : Kp [] H (upd H p (.tup (cutV xs none (some (k : Int))))) := Kp.laid np
    have e : cutV xs none (some (k : Int)) = xs.take k := by
      unfold cutV
      rw [HT.sIx_none, HT.sIx_nat, List.drop_zero]
      congr 1
      omega
    refine q p _ kp ?_
    rw [e]
    show Rp ex _ (.tuple ((es.take k).map Ent.data)) _
    rw [List.map_take]
    exact rp_new (lv.fresh np) np (RpAll.cutT k hx).1
theorem cut_drop (rv : Rp ex H (logD es) v) (lv : Live ex H) (hk : k ≤ es.length) (q : ∀ p H', Kp [] H H' → Rp ex H' (logD (es.drop k)) (.ref p) → Q (.ref p) H') : rSlA K v (some (k : Int)) none H Q := by
  obtain ⟨a, xs, rfl, na, ha, hx⟩ := rv
  have hl : es.length = xs.length := len_data hx
  refine ⟨a, xs, rfl, .inl (.inl ha), fun h => ?_, fun _ p np => ?_⟩
  · have h2 := h.1
    rw [HT.sIx_nat] at h2
    have e : es.drop k = es := by
      rcases Nat.eq_zero_or_pos k with h0 | h0
      · rw [h0, List.drop_zero]
      · have : es = [] := List.length_eq_zero_iff.mp (by omega)
        rw [this, List.drop_nil]
    rw [e] at q
    exact q a H Kp.refl ⟨a, xs, rfl, na, ha, hx⟩
  · have kp : Kp [] H (upd H p (.tup (cutV xs (some (k : Int)) none))) := Kp.laid np
    have e : cutV xs (some (k : Int)) none = xs.drop k := by
      unfold cutV
      rw [HT.sIx_none, HT.sIx_nat, show min k xs.length = k by omega]
      exact List.take_of_length_le (by rw [List.length_drop]; omega)
    refine q p _ kp ?_
    rw [e]
    show Rp ex _ (.tuple ((es.drop k).map Ent.data)) _
    rw [List.map_drop]
    exact rp_new (lv.fresh np) np (RpAll.cutT k hx).2
/-- one log behind another -/
theorem cat_log {fs : List Ent} {u : V} (rv : Rp ex H (logD es) v) (ru : Rp ex H (logD fs) u) (lv : Live ex H) (h : es.length + fs.length ≤ 1000) (q : ∀ p H', Kp [] H H' → Rp ex H' (logD (es ++ fs)) (.ref p) → Q (.ref p) H') : rCatA K v u H Q := by
  have line : (100000 : Nat) < sizeLine := by decide
  obtain ⟨a, xs, rfl, na, ha, hx⟩ := rv
  obtain ⟨b, ys, rfl, nb, hb, hy⟩ := ru
  have hl : es.length = xs.length := len_data hx
  have hm : fs.length = ys.length := len_data hy
  refine ⟨a, b, xs, ys, rfl, rfl, .inl (.inl ha), .inl (.inl hb), by omega, fun e1 => ?_, fun _ e2 => ?_, fun _ _ p np => ?_⟩
  · have : es = [] := by rw [e1] at hl; exact List.length_eq_zero_iff.mp hl
    subst this
    exact q b _ Kp.refl ⟨b, ys, rfl, nb, hb, hy⟩
  · have : fs = [] := by rw [e2] at hm; exact List.length_eq_zero_iff.mp hm
    subst this
    rw [List.append_nil] at q
    exact q a _ Kp.refl ⟨a, xs, rfl, na, ha, hx⟩
  · refine q p _ (Kp.laid np) ?_
    show Rp ex _ (.tuple ((es ++ fs).map Ent.data)) _
    rw [List.map_append]
    exact rp_new (lv.fresh np) np (hx.app hy)
/-- two values in a new tuple -/
theorem pair_new {d1 d2 : PyData} {u : V} {p : Addr} (np : H p = none) (lv : Live ex H) (r1 : Rp ex H d1 v) (r2 : Rp ex H d2 u) : Rp ex (upd H p (.tup [v, u])) (.tuple [d1, d2]) (.ref p) := rp_new (lv.fresh np) np ⟨_, _, rfl, r1, RpAll.one r2⟩
end
end NV
/-! SetDc -/
set_option Elab.async false
set_option linter.all false
set_option maxRecDepth 100000
set_option maxHeartbeats 600000
/-! name = {..: .. for ..} on one line, the name a local -/
namespace NV
open PySem PySem.Spec PyProof.Rows
open L2
section
variable {X : Cx}
theorem sw_dict {kx vx : Expr} {gs : List Comprehension} {scope : Scope} {pos py : Pos} {y : Str} {l : Nat} {env : Env} (fn : env.scope.kind = .function) (loc : env.scope.names.lookup y = some .local) (line : (py.line == pos.line) = true)
    (free : (scope.names.any fun (n, k) => n == y && (k == .local || k == .cell)) = false) : swapsWith (.DictComp kx vx gs scope pos) (some (.Name y py)) l env = pure true := by
  have k1 : env.kindOf y = some .local := loc
  have k2 : env.blockKind = .function := by
    unfold Env.blockKind
    rw [fn]
    rfl
  unfold swapsWith
  simp only [k1, k2, free, Expr.pos, line]
  rfl
theorem ps_setDc {i : Nat} {y : Str} {py : Pos} {kx vx tg iter : Expr} {ifs : List Expr} {scope : Scope} {own : List (Str × Nat)} {pos spos : Pos} {wi : TI} {g : TG} {tt : TT} {tk tv : TE} (calm : X.calm = true) (nd : X.N.Nodup) (at_ : X.N[i]? = some y) (loc : X.env.scope.names.lookup y = some .local)
    (sw : swapsWith (.DictComp kx vx [⟨tg, iter, ifs, 0⟩] scope pos) (some (.Name y py)) spos.line X.env = pure true) (hi : PI X tg iter wi) (ok : BlkOk X.N X.env.scope scope own)
    (rg : ∀ (s : Shared) (H : Hp) (C : Addr) (cl : List (Str × Addr)) (fp : List Addr), PG (X.blk s H scope (compEnvC scope cl C X.env) fp) tg g) (rt : ∀ (s : Shared) (H : Hp) (C : Addr) (cl : List (Str × Addr)) (fp : List Addr), PTs (X.blk s H scope (compEnvC scope cl C X.env) fp) ifs tt)
    (rk : ∀ (s : Shared) (H : Hp) (C : Addr) (cl : List (Str × Addr)) (fp : List Addr), PE (X.blk s H scope (compEnvC scope cl C X.env) fp) kx tk) (rv : ∀ (s : Shared) (H : Hp) (C : Addr) (cl : List (Str × Addr)) (fp : List Addr), PE (X.blk s H scope (compEnvC scope cl C X.env) fp) vx tv)
    (flat : ∀ x, foldedSetIterable iter X.env x = pure x := by intro _; rfl) : PS X (.Assign [.Name y py] (.DictComp kx vx [⟨tg, iter, ifs, 0⟩] scope pos) spos) (tAsg (tDc wi g tt tk tv (own.map (·.2))) (gName i)) := by
  constructor
  intro pins s σ H D I h
  rw [exec_Assign_Name_used _ _ _ _ sw]
  refine wpAny_bind (wpAny_standAt (wpAny_bind ?_))
  show wpAny _ X.A (do let _ ← comprehension (.DictComp kx vx [⟨tg, iter, ifs, 0⟩] scope pos) scope X.env (firstIterPos [⟨tg, iter, ifs, 0⟩] pos) newDict false (eval iter X.env) (some (assign (.Name y py) X.env))) _ _ s
  have h : tDc wi g tt tk tv (own.map (·.2)) σ H (fun x H1 => gName i x σ H1 D.nx) := h
  have made := dc_core (pos := pos) (pos' := firstIterPos [⟨tg, iter, ifs, 0⟩] pos) (use := some (assign (.Name y py) X.env)) (Qf := fun _ s' => SP X pins D .next s') calm nd I hi ok rg rt rk rv flat h ?_
  · exact wpAny_bind (thn made fun _ s' done => wpAny_pure (wpAny_pure done))
  · intro L C s' m H' J q names fp
    show wpAny _ _ (assign (.Name y py) X.env (.ref L)) _ _ _
    obtain ⟨p0, p1, p2, p3, p4, p5⟩ := fp
    refine wpAny_assign_Name (store_ok2 (v := V.ref L) J nd at_ (.inl loc) rfl ?_ (.inr loc))
    rintro s2 J2 ⟨a, same, ha⟩
    have apart : C ≠ a := ha.elim (fun z => z ▸ p1) fun z e => p4 y a z e.symm
    exact ⟨m, names.sameBut same apart, fun h3 same3 => ⟨_, H', J2.turned (t' := s2.toks) (fun b o hb e => (same3.2 b hb).trans e) p0 p1 p3 p4 p5, q⟩⟩
end
end NV
/-! V2g -/
set_option Elab.async false
set_option linter.all false
set_option maxRecDepth 100000
set_option maxHeartbeats 1000000
/-! a list or a tuple gone through; dict comprehensions; dicts of names -/
namespace NV
open PySem PySem.Spec PyProof.Rows L2
open C8 (pss_cut pe_gc)
/-! ### a list or a tuple is gone through -/
def Jn (K : PySem.W.Frag) (b : Bool) (a : Addr) : It := if b then Itl K a else Itt K a
def iSeq (K : PySem.W.Frag) (tl : TE) : TI := fun σ H R => tl σ H fun x H1 => ∃ (a : Addr) (xs : List V) (b : Bool), x = .ref a ∧ (if b then SqL K H1 a xs else SqT K H1 a xs) ∧ R (Jn K b a) H1
theorem pi_seq {X : Cx} {tg l : Expr} {tl : TE} (K : PySem.W.Frag) (hl : PE X l tl) (hK : X.K = K := by rfl) : PI X tg l (iSeq K tl) := by
  subst hK
  constructor
  intro pins s σ H R I h
  refine thn (hl.run pins s σ H _ I h) ?_
  rintro v s1 ⟨x, H1, J, rel, a, xs, b, rfl, at_, q⟩
  obtain rfl : v = .ref a := rel
  have new : FpOk X pins H1 s1.heap.objs.size := J.fpOk (Nat.le_refl _) (J.hok.fresh (Nat.le_refl _))
  have one : ∀ b ∈ [s1.heap.objs.size], FpOk X pins H1 b := fun b hb => by
    rw [List.mem_singleton.mp hb]
    exact new
  cases b with
  | true =>
    obtain ⟨us, _, t, _⟩ := J.list at_
    exact wpAny_pyIter_list t.isList ⟨_, _, _, _, H1, rfl, J.kept (t' := s1.toks) (fun b o e => Heap.get?_push_of_some _ e), turn_list a _, ⟨_, Heap.get?_push_size _ rfl, rfl, rfl⟩, one, q⟩
  | false =>
    obtain ⟨us, _, t, _⟩ := J.tuple at_
    exact wpAny_pyIter_tuple (items := us.toArray) t ⟨_, _, _, _, H1, rfl, J.kept (t' := s1.toks) (fun b o e => Heap.get?_push_of_some _ e), turn_tuple a _, ⟨_, Heap.get?_push_size _ rfl, rfl, rfl⟩, one, q⟩
/-- a dict comprehension by what holds at each turn -/
theorem dc_inv {J : It} {g : TG} {tt : TT} {tk tv : TE} {vs : List Nat} {σ : L2.St} {C : Addr} {H1 : Hp} {Qd : Hp → Prop} (n : Nat) (Pv : Nat → Hp → Prop) (h0 : Pv 0 (upd H1 C (.dK []))) (hd : ∀ H, Pv n H → J.stop n H ∧ Qd H) (hgo : ∀ i H, i < n → Pv i H → J.go i H)
    (hs : ∀ i H x H', i < n → Pv i H → J.yld i H x H' → g x (wipe σ vs) H' fun σ2 H2 => wipe σ2 vs = wipe σ vs ∧ tt σ2 H2 fun b H3 => if b = true then tk σ2 H3 fun y H4 => tv σ2 H4 fun z H5 => ∃ kvs k, y = kV k ∧ H5 C = some (.dK kvs) ∧ kvs.length < sizeLine ∧ Pv (i + 1) (upd H5 C (.dK (putK kvs k z))) else Pv (i + 1) H3) :
    ∃ W : Nat → Nat → Hp → Prop, (∃ m, W 0 m (upd H1 C (.dK []))) ∧ ∀ i m H, W i m H →
      (J.stop i H ∧ Qd H) ∨ (J.go i H ∧ ∃ Nx : Hp → Prop, (∀ H', Nx H' → ∃ m', m' < m ∧ W (i + 1) m' H') ∧ ∀ x H', J.yld i H x H' → g x (wipe σ vs) H' fun σ2 H2 => wipe σ2 vs = wipe σ vs ∧ tt σ2 H2 fun b H3 =>
        if b = true then tk σ2 H3 fun y H4 => tv σ2 H4 fun z H5 => ∃ kvs k, y = kV k ∧ H5 C = some (.dK kvs) ∧ kvs.length < sizeLine ∧ Nx (upd H5 C (.dK (putK kvs k z))) else Nx H3) := by
  refine ⟨fun i m H => m + i = n ∧ Pv i H, ⟨n, rfl, h0⟩, ?_⟩
  rintro i m H ⟨hm, p⟩
  cases m with
  | zero =>
    obtain rfl : i = n := by omega
    exact .inl (hd H p)
  | succ m => exact .inr ⟨hgo i H (by omega) p, Pv (i + 1), fun H' q => ⟨m, by omega, by omega, q⟩, fun x H' y => hs i H x H' (by omega) p y⟩
theorem rp_sel {ex : List Addr} {H : Hp} {es : List Ent} {xs : List V} (hx : RpAll ex H (es.map Ent.data) xs) (d : Ent) : ∀ l : List Nat, (∀ j ∈ l, j < es.length) → RpAll ex H ((l.map fun j => es.getD j d).map Ent.data) (l.map fun j => xs.getD j .non)
  | [], _ => rfl
  | j :: l, h => by
    have hj := h j List.mem_cons_self
    obtain ⟨v, hv, rv⟩ := RpAll.at hx (show (es.map Ent.data)[j]? = some (es.getD j d).data by rw [List.getElem?_map, List.getD_eq_getElem?_getD, List.getElem?_eq_getElem hj]; rfl)
    refine ⟨v, _, ?_, rv, rp_sel hx d l fun i hi => h i (List.mem_cons_of_mem _ hi)⟩
    rw [List.map_cons, List.getD_eq_getElem?_getD, hv]
    rfl
/-- names at a, in a list (b) or in a tuple -/
def Names (K : PySem.W.Frag) (b : Bool) (H : Hp) (a : Addr) (zs : List Str) : Prop := if b then H a = some (.lst (zs.map V.str)) else SqT K H a (zs.map V.str)
theorem Names.keep0 {K : PySem.W.Frag} {b : Bool} {H H' : Hp} {a : Addr} {zs : List Str} (h : Names K b H a zs) (k : Kp [] H H') : Names K b H' a zs := by
  cases b with
  | true => exact k _ _ (by simp) h
  | false => exact Kp.seqT k (by simp) h
/-- a is no new address, and what is new does not matter -/
theorem Names.seq {K : PySem.W.Frag} {b : Bool} {H : Hp} {a : Addr} {zs : List Str} (h : Names K b H a zs) : if b then SqL K H a (zs.map V.str) else SqT K H a (zs.map V.str) := by
  cases b with
  | true => exact .inl (.inl h)
  | false => exact h
section
variable {K : PySem.W.Frag} {b : Bool} {H : Hp} {a : Addr} {zs : List Str}
theorem Names.go {i : Nat} (h : Names K b H a zs) (hi : i < zs.length) : (Jn K b a).go i H := by
  have hx : (zs.map V.str)[i]? = some (V.str zs[i]) := by rw [List.getElem?_map, List.getElem?_eq_getElem hi]; rfl
  cases b with
  | true => exact ⟨_, _, .inl (.inl h), hx⟩
  | false => exact ⟨_, _, h, hx⟩
theorem Names.stop (h : Names K b H a zs) : (Jn K b a).stop zs.length H := by
  cases b with
  | true => exact ⟨_, .inl (.inl h), by rw [List.length_map]; exact Nat.le_refl _⟩
  | false => exact ⟨_, h, by rw [List.length_map]; exact Nat.le_refl _⟩
theorem Names.yld {i : Nat} {x : V} {H' : Hp} (h : Names K b H a zs) (y : (Jn K b a).yld i H x H') : H' = H ∧ ∃ z, zs[i]? = some z ∧ x = .str z := by
  have fin : (zs.map V.str)[i]? = some x → ∃ z, zs[i]? = some z ∧ x = .str z := fun e => by
    rw [List.getElem?_map] at e
    cases hz : zs[i]? with
    | none => rw [hz] at e; cases e
    | some z => rw [hz] at e; exact ⟨z, rfl, (Option.some.inj e).symm⟩
  cases b with
  | true =>
    obtain ⟨e, g⟩ := y
    exact ⟨e, fin (g _ (.inl (.inl h)))⟩
  | false =>
    obtain ⟨e, g⟩ := y
    exact ⟨e, fin (g _ h)⟩
end
/-- a dict in which exactly these names stand, True -/
structure GoneAt (d : Addr) (zs : List Str) (n : Nat) (H : Hp) : Prop where
  at_ : ∃ kvs : List (Key × V), H d = some (.dK kvs) ∧ kvs.length ≤ n ∧ ∀ z : Str, (valV kvs (Sum.inr z : Key)).isSome = decide (z ∈ zs)
theorem GoneAt.put {d : Addr} {zs : List Str} {n : Nat} {H : Hp} {z : Str} {v : V} {kvs : List (Key × V)} (e : H d = some (.dK kvs)) (l : kvs.length ≤ n) (g : ∀ z : Str, (valV kvs (Sum.inr z : Key)).isSome = decide (z ∈ zs)) : GoneAt d (zs ++ [z]) (n + 1) (upd H d (.dK (putK kvs (Sum.inr z : Key) v))) := by
  refine ⟨_, upd_same, Nat.le_trans (length_putK _ _ _) (by omega), fun y => ?_⟩
  rw [valV_put]
  by_cases h : (Sum.inr y : Key) = Sum.inr z
  · rw [if_pos h]
    have : y = z := Sum.inr.inj h
    rw [decide_eq_true (by rw [this]; simp)]
    rfl
  · rw [if_neg h, g y]
    have : y ≠ z := fun q => h (by rw [q])
    rw [decide_eq_decide]
    simp [this]
end NV
/-! LcE -/
set_option Elab.async false
set_option linter.all false
set_option maxRecDepth 100000
set_option maxHeartbeats 1000000
/-! comprehensions over entries: some of them, something of each -/
namespace NV
open PySem PySem.Spec PyProof.Rows L2
/-- what a walk over xs is -/
structure Walks (J : It) (xs : List V) (C : Addr) (H1 : Hp) : Prop where
  go : ∀ k H, k < xs.length → Kp [C] H1 H → J.go k H
  stop : ∀ H, Kp [C] H1 H → J.stop xs.length H
  yld : ∀ k H x H', Kp [C] H1 H → J.yld k H x H' → H' = H ∧ xs[k]? = some x
theorem walks_tup {K : PySem.W.Frag} {a C : Addr} {xs : List V} {H1 : Hp} (h : H1 a = some (.tup xs)) (nC : H1 C = none) : Walks (Itt K a) xs C H1 := by
  have ne : a ∉ [C] := fun z => by rw [List.mem_singleton.mp z, nC] at h; cases h
  have s : ∀ {H : Hp}, Kp [C] H1 H → SqT K H a xs := fun k => .inl (.inl (k _ _ ne h))
  exact ⟨fun k H hk kp => ⟨_, _, s kp, List.getElem?_eq_getElem hk⟩, fun H kp => ⟨_, s kp, Nat.le_refl _⟩, fun k H x H' kp y => ⟨y.1, y.2 _ (s kp)⟩⟩
theorem walks_lst {K : PySem.W.Frag} {a C : Addr} {xs : List V} {H1 : Hp} (h : H1 a = some (.lst xs)) (nC : H1 C = none) : Walks (Itl K a) xs C H1 := by
  have ne : a ∉ [C] := fun z => by rw [List.mem_singleton.mp z, nC] at h; cases h
  have s : ∀ {H : Hp}, Kp [C] H1 H → SqL K H a xs := fun k => .inl (.inl (k _ _ ne h))
  exact ⟨fun k H hk kp => ⟨_, _, s kp, List.getElem?_eq_getElem hk⟩, fun H kp => ⟨_, s kp, Nat.le_refl _⟩, fun k H x H' kp y => ⟨y.1, y.2 _ (s kp)⟩⟩
theorem lc_ents {J : It} {tt : TT} {te : TE} {i : Nat} {σ : L2.St} {C : Addr} {H1 : Hp} {Qd : Hp → Prop} {xs : List V} {gs : List Ent} {ex : List Addr} (f : Ent → PyData) (p : Ent → Bool) (wk : Walks J xs C H1) (nC : H1 C = none) (hx : RpAll ex H1 (gs.map Ent.data) xs) (hz : xs.length < 1000)
    (htt : ∀ (e : Ent) (x : V) (H : Hp) (Q : Bool → Hp → Prop), e ∈ gs → Kp [C] H1 H → Rp (C :: ex) H e.data x → (∀ H', Kp [] H H' → Q (p e) H') → tt ((wipe σ [i]).set i (some x)) H Q)
    (hte : ∀ (e : Ent) (x : V) (H : Hp) (Q : V → Hp → Prop), e ∈ gs → p e = true → Kp [C] H1 H → Rp (C :: ex) H e.data x → (∀ v H', Kp [] H H' → Rp (C :: ex) H' (f e) v → Q v H') → te ((wipe σ [i]).set i (some x)) H Q)
    (hd : ∀ H' ys, Kp [C] H1 H' → H' C = some (.lst ys) → RpAll (C :: ex) H' ((gs.filter p).map f) ys → Qd H') (hw : ∀ x : V, wipe ((wipe σ [i]).set i (some x)) [i] = wipe σ [i]) :
    ∃ W : Nat → Nat → Hp → Prop, (∃ m, W 0 m (upd H1 C (.lst []))) ∧ ∀ i' m H, W i' m H →
      (J.stop i' H ∧ Qd H) ∨ (J.go i' H ∧ ∃ Nx : Hp → Prop, (∀ H', Nx H' → ∃ m', m' < m ∧ W (i' + 1) m' H') ∧ ∀ x H', J.yld i' H x H' → gName i x (wipe σ [i]) H' fun σ2 H2 => wipe σ2 [i] = wipe σ [i] ∧ tt σ2 H2 fun b H3 =>
        if b = true then te σ2 H3 fun y H4 => ∃ acc, H4 C = some (.lst acc) ∧ acc.length < sizeLine ∧ Nx (upd H4 C (.lst (acc ++ [y]))) else Nx H3) := by
  have hl : gs.length = xs.length := by
    have := hx.length
    rwa [List.length_map] at this
  have line : (100000 : Nat) < sizeLine := by decide
  have hxC : RpAll (C :: ex) (upd H1 C (.lst [])) (gs.map Ent.data) xs := RpAll.keep (Kp.laid nC) _ _ (RpAll.apart nC _ _ hx)
  refine lc_inv xs.length (fun j H => Kp [C] H1 H ∧ ∃ ys, H C = some (.lst ys) ∧ ys.length ≤ j ∧ RpAll (C :: ex) H (((gs.take j).filter p).map f) ys) ⟨Kp.laid nC, [], upd_same, Nat.zero_le _, rfl⟩ ?_ (fun j H hj ⟨k, _⟩ => wk.go j H hj k) ?_
  · rintro H ⟨k, ys, hC, hlen, hy⟩
    rw [← hl, List.take_length] at hy
    exact ⟨wk.stop H k, hd H ys k hC hy⟩
  · rintro j H x H' hj ⟨k, ys, hC, hlen, hy⟩ y
    obtain ⟨rfl, hxj⟩ := wk.yld j H x H' k y
    obtain ⟨e, he⟩ : ∃ e, gs[j]? = some e := ⟨_, List.getElem?_eq_getElem (by omega)⟩
    have hm : e ∈ gs := List.mem_of_getElem? he
    obtain ⟨x', hx', rx⟩ := RpAll.at hxC (show (gs.map Ent.data)[j]? = some e.data by rw [List.getElem?_map, he]; rfl)
    rw [hxj] at hx'
    obtain rfl := Option.some.inj hx'
    have rx2 : Rp (C :: ex) H' e.data x := by
      refine Rp.keep (fun b o hb ho => ?_) _ _ rx
      have hbC : b ≠ C := fun z => hb (by rw [z]; simp)
      rw [upd_ne hbC] at ho
      exact k b o (by simpa using hbC) ho
    have tk : ∀ b, p e = b → ((gs.take (j + 1)).filter p).map f = ((gs.take j).filter p).map f ++ (if b then [f e] else []) := fun b hb => by
      rw [List.take_add_one, he, List.filter_append, List.map_append]
      cases b <;> simp [List.filter, hb]
    refine ⟨hw x, htt e x H' _ hm k rx2 fun H2 k2 => ?_⟩
    have kC2 : Kp [C] H1 H2 := k.trans (k2.mono (by simp))
    have hC2 := k2 _ _ (by simp) hC
    have rx3 := Rp.keep (k2.mono (ex' := C :: ex) (by simp)) _ _ rx2
    have hy2 := RpAll.keep (k2.mono (ex' := C :: ex) (by simp)) _ _ hy
    cases hp : p e with
    | true =>
      rw [if_pos rfl]
      refine hte e x H2 _ hm hp kC2 rx3 fun v H3 k3 rv => ?_
      refine ⟨ys, k3 _ _ (by simp) hC2, by omega, kC2.trans ((k3.mono (by simp)).trans (Kp.put (by simp))), ys ++ [v], upd_same, by rw [List.length_append]; simp; omega, ?_⟩
      rw [tk true hp]
      exact RpAll.app (RpAll.keep ((k3.mono (by simp)).trans (Kp.put (by simp))) _ _ hy2) (RpAll.one (Rp.keep (Kp.put (by simp)) _ _ rv))
    | false =>
      rw [if_neg (by simp)]
      refine ⟨kC2, ys, hC2, by omega, ?_⟩
      rw [tk false hp]
      simpa using hy2
theorem kpn {H H' : Hp} {p : Addr} (k : Kp [] H H') (h : H' p = none) : H p = none := by
  cases e : H p with
  | none => rfl
  | some o => rw [k _ _ (by simp) e] at h; cases h
theorem wipe_one (σ : L2.St) (i : Nat) (x : V) : wipe ((wipe σ [i]).set i (some x)) [i] = wipe σ [i] := by
  show ((((σ.set i none).set i (some x)).set i none) : L2.St) = σ.set i none
  rw [List.set_set, List.set_set]
end NV
/-! KpT -/
set_option Elab.async false
set_option linter.all false
set_option maxRecDepth 100000
set_option maxHeartbeats 600000
/-! what stays but for some addresses and for tables; short texts told of values -/
namespace NV
open PySem PySem.Spec PyProof.Rows L2
def KpT (ex : List Addr) (H H' : Hp) : Prop := ∀ b o, H b = some o → b ∉ ex → (∀ ps, o ≠ .tbl ps) → H' b = some o
theorem KpT.of {ex : List Addr} {H H' : Hp} (k : Kp ex H H') : KpT ex H H' := fun b o h n _ => k b o n h
theorem KpT.ext {ex : List Addr} {H H' : Hp} (k : LamX.ExtN H H') : KpT ex H H' := fun b o h _ t => k b o h t
theorem KpT.trans {ex : List Addr} {H H1 H2 : Hp} (a : KpT ex H H1) (b : KpT ex H1 H2) : KpT ex H H2 := fun c o h n t => b c o (a c o h n t) n t
mutual
theorem Rp.keepT {ex : List Addr} {H H' : Hp} (k : KpT ex H H') : ∀ (d : PyData) (v : V), Rp ex H d v → Rp ex H' d v
  | .none, _, h => h
  | .bool _, _, h => h
  | .int _, _, h => h
  | .str _, _, h => h
  | .list ds, v, h => by
    obtain ⟨a, xs, e, na, h1, h2⟩ := h
    exact ⟨a, xs, e, na, k a _ h1 na (fun _ z => by cases z), RpAll.keepT k ds xs h2⟩
  | .tuple ds, v, h => by
    obtain ⟨a, xs, e, na, h1, h2⟩ := h
    exact ⟨a, xs, e, na, k a _ h1 na (fun _ z => by cases z), RpAll.keepT k ds xs h2⟩
  | .dict kvs, v, h => by
    obtain ⟨z, a, e, na, h1⟩ := h
    exact ⟨z, a, e, na, k a _ h1 na (fun _ z => by cases z)⟩
theorem RpAll.keepT {ex : List Addr} {H H' : Hp} (k : KpT ex H H') : ∀ (ds : List PyData) (vs : List V), RpAll ex H ds vs → RpAll ex H' ds vs
  | [], _, h => h
  | d :: ds, vs, h => by
    obtain ⟨v, ws, e, h1, h2⟩ := h
    exact ⟨v, ws, e, Rp.keepT k d v h1, RpAll.keepT k ds ws h2⟩
end
/-- two short texts are told alike -/
theorem strs2_ne {K : PySem.W.Frag} {H : Hp} {p T : Addr} {x z : Str} {Q : VK} (hx : TxtOk x) (hz : TxtOk z) (hp : H p = some (.tup [V.str x, V.str z])) (hT : H T = some (.tup [V.str x, V.str z])) (q : Q (.bl false) H) : rNeD K (.ref p) (.ref T) H Q := by
  have rp : ∀ {b : Addr}, H b = some (.tup [V.str x, V.str z]) → Rp [] H (.tuple [.str x, .str z]) (.ref b) := fun {b} e => ⟨b, _, rfl, by simp, e, .str x, [.str z], rfl, rfl, .str z, [], rfl, rfl, rfl⟩
  exact ne_ok (n := 1) (DOk.tup fun d hd => by
    rcases List.mem_cons.mp hd with e | e
    · rw [e]; exact DOk.str hx
    · rw [List.mem_singleton.mp e]; exact DOk.str hz) (rp hp) (rp hT) q
theorem strs2_eq {K : PySem.W.Frag} {H : Hp} {p T : Addr} {x z : Str} {Q : VK} (hx : TxtOk x) (hz : TxtOk z) (hp : H p = some (.tup [V.str x, V.str z])) (hT : H T = some (.tup [V.str x, V.str z])) (q : Q (.bl true) H) : rEqD K (.ref p) (.ref T) H Q := by
  have rp : ∀ {b : Addr}, H b = some (.tup [V.str x, V.str z]) → Rp [] H (.tuple [.str x, .str z]) (.ref b) := fun {b} e => ⟨b, _, rfl, by simp, e, .str x, [.str z], rfl, rfl, .str z, [], rfl, rfl, rfl⟩
  exact eq_ok (n := 1) (DOk.tup fun d hd => by
    rcases List.mem_cons.mp hd with e | e
    · rw [e]; exact DOk.str hx
    · rw [List.mem_singleton.mp e]; exact DOk.str hz) (rp hp) (rp hT) q
/-- a value that may be told in a message -/
def oddB (d : PyData) : Bool := niceD d && (decide (d.depth ≤ 64) && (decide (vol d ≤ 1000000) && (decide (d.shown.length ≤ 100) && PyData.strOk d.shown)))
theorem odd_good {d : PyData} (h : oddB d = true) : Good d ∧ TxtOk d.shown := by
  unfold oddB at h
  simp only [Bool.and_eq_true, decide_eq_true_eq] at h
  obtain ⟨h1, h2, h3, h4, h5⟩ := h
  exact ⟨⟨h1, h2, h3⟩, h4, h5⟩
theorem odd_small : ∀ n : Nat, n < 62 → oddB (.int (n : Nat)) = true := by decide +kernel
end NV
/-! StoreM -/
set_option Elab.async false
set_option linter.all false
set_option maxRecDepth 100000
set_option maxHeartbeats 1000000
/-! the methods of a store, asked rightly: made, _keep, add, lower_budget, log, budget -/
namespace NV
open PySem PySem.Spec PyProof.Rows L2
open C8 (pss_cut pe_gc)
abbrev sStoreInit : Stmt := L2.inClass (topS 64) 0
theorem scStoreInit : FnScope ["self", "budget"] ["self", "budget"] (defScope sStoreInit) := ⟨rfl, rfl, rfl, by decide +kernel, rfl, by decide +kernel, by decide +kernel⟩
abbrev sStoreKeep : Stmt := L2.inClass (topS 64) 1
theorem scStoreKeep : FnScope ["self", "log", "budget", "kept", "entry"] ["self", "log", "budget"] (defScope sStoreKeep) := ⟨rfl, rfl, rfl, by decide +kernel, rfl, by decide +kernel, by decide +kernel⟩
abbrev sStoreAdd : Stmt := L2.inClass (topS 64) 3
theorem scStoreAdd : FnScope ["self", "entry", "kept"] ["self", "entry"] (defScope sStoreAdd) := ⟨rfl, rfl, rfl, by decide +kernel, rfl, by decide +kernel, by decide +kernel⟩
abbrev sStoreLowerBudget : Stmt := L2.inClass (topS 64) 9
theorem scStoreLowerBudget : FnScope ["self", "budget"] ["self", "budget"] (defScope sStoreLowerBudget) := ⟨rfl, rfl, rfl, by decide +kernel, rfl, by decide +kernel, by decide +kernel⟩
abbrev sStoreLog : Stmt := L2.inClass (topS 64) 11
theorem scStoreLog : FnScope ["self"] ["self"] (defScope sStoreLog) := ⟨rfl, rfl, rfl, by decide +kernel, rfl, by decide +kernel, by decide +kernel⟩
abbrev sStoreBudget : Stmt := L2.inClass (topS 64) 12
theorem scStoreBudget : FnScope ["self"] ["self"] (defScope sStoreBudget) := ⟨rfl, rfl, rfl, by decide +kernel, rfl, by decide +kernel, by decide +kernel⟩
/-- a store at p: its log, its budget, what is retracted -/
structure StAt (C : Addr) (ex : List Addr) (H : Hp) (p : Addr) (es : List Ent) (B : Int) (gone : List Str) : Prop where
  ob : ∃ (dx : Addr) (lv : V) (ra na : Addr) (ns : List V), H p = some (.ins C dx (stF lv (.int B) (.ref ra) (.ref na))) ∧ Rp ex H (logD es) lv ∧ H ra = some (.tup (gone.map V.str)) ∧ ra ∉ ex ∧ H na = some (.lst ns) ∧ na ∉ ex
theorem StAt.keep {C : Addr} {ex : List Addr} {H H' : Hp} {p : Addr} {es : List Ent} {B : Int} {gone : List Str} (s : StAt C ex H p es B gone) {T : List Addr} (k : Kp T H H') (hp : p ∉ T) (sub : ∀ b ∈ T, b ∈ ex) : StAt C ex H' p es B gone := by
  obtain ⟨dx, lv, ra, na, ns, h1, h2, h3, h4, h5, h6⟩ := s.ob
  exact ⟨dx, lv, ra, na, ns, k _ _ hp h1, Rp.keep (k.mono sub) _ _ h2, k _ _ (fun z => h4 (sub _ z)) h3, h4, k _ _ (fun z => h6 (sub _ z)) h5, h6⟩
/-- the ids of the entries that are not kept -/
def lostS (B : Int) (es : List Ent) : List Str := (es.filter fun e => decide (e.id ∉ (keptB B es).map Ent.id)).map Ent.id
/-- what the class is, as the top has made it -/
structure StTxt (K : PySem.W.Frag) (C : Addr) : Prop where
  cl : Cls K C
  nL : NoAttr K C "_log"
  nB : NoAttr K C "_budget"
  nR : NoAttr K C "_retracted"
  nN : NoAttr K C "_notes"
def spStInit (C : Addr) : Sp := fun vs H Q _ => ∃ (x : Addr) (B : Int) (ex : List Addr), vs = [.ref x, .int B] ∧ (∃ dx, H x = some (.ins C dx [])) ∧ 0 ≤ B ∧ B ≤ 999 ∧ Live ex H ∧ ∀ H', Kp [x] H H' → StAt C ex H' x [] B [] → Q .non H'
def spStKeep (C : Addr) : Sp := fun vs H Q _ => ∃ (p : Addr) (v : V) (es es0 : List Ent) (B B0 : Int) (gone : List Str) (ex : List Addr), vs = [.ref p, v, .int B] ∧ StAt C ex H p es0 B0 gone ∧ p ∈ ex ∧ Rp ex H (logD es) v ∧ LogOk es ∧ es.length ≤ 60 ∧ Live ex H ∧
  ∀ d H', Kp [p] H H' → H d = none → H' d = some (.lst ((lostS B es).map V.str)) → StAt C ex H' p (keptB B es) B gone → Q (.ref d) H'
def spStAdd (C : Addr) : Sp := fun vs H Q _ => ∃ (p : Addr) (v : V) (es : List Ent) (e : Ent) (B : Int) (gone : List Str) (ex : List Addr), vs = [.ref p, v] ∧ StAt C ex H p es B gone ∧ p ∈ ex ∧ Rp ex H e.data v ∧ LogOk (es ++ [e]) ∧ es.length < 60 ∧ (e.id ∈ gone → e.isW = true ∧ e.pr ≠ none) ∧ gone.length ≤ 1000 ∧ Live ex H ∧
  ∀ d H', Kp [p] H H' → H d = none → H' d = some (.lst ((lostS B (es ++ [e])).map V.str)) → StAt C ex H' p (keptB B (es ++ [e])) B gone → Q (.ref d) H'
def spStLow (C : Addr) : Sp := fun vs H Q _ => ∃ (p : Addr) (es : List Ent) (B B' : Int) (gone : List Str) (ex : List Addr), vs = [.ref p, .int B'] ∧ StAt C ex H p es B gone ∧ p ∈ ex ∧ LogOk es ∧ es.length ≤ 60 ∧ 0 ≤ B' ∧ B' ≤ B ∧ B ≤ 999 ∧ Live ex H ∧
  ∀ d H', Kp [p] H H' → H d = none → H' d = some (.lst ((lostS B' es).map V.str)) → StAt C ex H' p (keptB B' es) B' gone → Q (.ref d) H'
def spStLog (C : Addr) : Sp := fun vs H Q _ => ∃ (p : Addr) (es : List Ent) (B : Int) (gone : List Str) (ex : List Addr), vs = [.ref p] ∧ StAt C ex H p es B gone ∧ ∀ v, Rp ex H (logD es) v → Q v H
def spStBud (C : Addr) : Sp := fun vs H Q _ => ∃ (p : Addr) (es : List Ent) (B : Int) (gone : List Str) (ex : List Addr), vs = [.ref p] ∧ StAt C ex H p es B gone ∧ Q (.int B) H
theorem in_tupS {K : PySem.W.Frag} {H : Hp} {a : Addr} {zs : List Str} {c : Str} {Q : VK} (ha : H a = some (.tup (zs.map V.str))) (q : Q (.bl (decide (c ∈ zs))) H) : rIn K false (.str c) (.ref a) H Q := by
  refine ⟨a, _, rfl, .inr (.inl (.inl ha)), rfl, ?_, ?_⟩
  · rw [List.all_map]
    exact List.all_eq_true.mpr fun x _ => rfl
  · have e : inV (.str c) (zs.map V.str) = decide (c ∈ zs) := by
      unfold inV
      rw [List.any_map, Bool.eq_iff_iff, List.any_eq_true, decide_eq_true_iff]
      constructor
      · rintro ⟨y, hy, h⟩
        have h : (y == c) = true := h
        rw [← eq_of_beq h]
        exact hy
      · intro h
        exact ⟨c, h, by show (c == c) = true; exact beq_self_eq_true c⟩
    rw [e]
    exact q
section
variable {P : Program} {w : World} {K : PySem.W.Frag} {mg : Str → Option Value} {base : Heap} {CStore : Addr}
theorem ok_stlog (DStoreLog : Mt K CStore "log" "Store.log" sStoreLog ["self"]) (T : StTxt K CStore) : FnOk P w K mg base CX0 1 DStoreLog.f DStoreLog.fd ["self"] (spStLog CStore) := by
  refine DStoreLog.F.ok scStoreLog (fun vs H Q E h => ?_) (fun cdv A outer s H vs Q E hr h => ?_)
  · obtain ⟨p, es, B, gone, ex, rfl, _⟩ := h
    rfl
  obtain ⟨p, es, B, gone, ex, rfl, s, q⟩ := h
  obtain ⟨dx, lv, ra, na, ns, h1, h2, h3, h4, h5, h6⟩ := s.ob
  refine ⟨_, pss_one (ps_ret (pe_fld (pv 0) rfl)), ?_⟩
  exact ⟨_, rfl, p, CStore, dx, _, lv, rfl, h1, T.cl, T.nL, st_log, q lv h2⟩
theorem ok_stbud (DStoreBudget : Mt K CStore "budget" "Store.budget" sStoreBudget ["self"]) (T : StTxt K CStore) : FnOk P w K mg base CX0 1 DStoreBudget.f DStoreBudget.fd ["self"] (spStBud CStore) := by
  refine DStoreBudget.F.ok scStoreBudget (fun vs H Q E h => ?_) (fun cdv A outer s H vs Q E hr h => ?_)
  · obtain ⟨p, es, B, gone, ex, rfl, _⟩ := h
    rfl
  obtain ⟨p, es, B, gone, ex, rfl, s, q⟩ := h
  obtain ⟨dx, lv, ra, na, ns, h1, h2, h3, h4, h5, h6⟩ := s.ob
  refine ⟨_, pss_one (ps_ret (pe_fld (pv 0) rfl)), ?_⟩
  exact ⟨_, rfl, p, CStore, dx, _, _, rfl, h1, T.cl, T.nB, st_budget, q⟩
theorem ok_stinit (DStoreInit : MtD K CStore "__init__" "Store.__init__" sStoreInit ["self", "budget"]) (T : StTxt K CStore) (DCheckBudget : Fn K mg "check_budget" sCheckBudget ["budget"]) (GCheckBudget : FnOk P w K mg base CX0 2 DCheckBudget.f DCheckBudget.fd ["budget"] spBudget) : FnOk P w K mg base CX0 3 DStoreInit.f DStoreInit.fd ["self", "budget"] (spStInit CStore) := by
  refine okD DStoreInit.F scStoreInit (fun vs H Q E h => ?_) (fun cdv A outer s H vs Q E hr h => ?_)
  · obtain ⟨x, B, ex, rfl, _⟩ := h
    rfl
  obtain ⟨x, B, ex, rfl, ⟨dx, hx⟩, B0, B9, lv, q⟩ := h
  refine ⟨_, pss_cons (ps_expr (pe_fn DCheckBudget GCheckBudget hr (pa_cons (pv 1) pa_nil)))
      (pss_cons (ps_fld (pv 0) (pe_tup pa_nil) rfl)
      (pss_cons (ps_fld (pv 0) (pv 1) rfl)
      (pss_cons (ps_fld (pv 0) (pe_tup pa_nil) rfl)
      (pss_one (ps_fld (pv 0) (pe_lst pa_nil) rfl))))), ?_⟩
  refine ⟨_, rfl, B, rfl, B0, B9, ?_⟩
  have line : (100000 : Nat) < sizeLine := by decide
  refine ⟨by show 0 ≤ sizeLine; omega, fun t nt => ?_⟩
  have ntx : t ≠ x := fun z => by rw [z, hx] at nt; cases nt
  have k1 : Kp [x] H (upd H t (.tup [])) := Kp.laid nt
  have hx1 : (upd H t (.tup [])) x = some (.ins CStore dx []) := by rw [upd_ne ntx.symm]; exact hx
  have ht1 : (upd H t (.tup [])) t = some (.tup []) := upd_same
  have nte := lv.fresh nt
  obtain ⟨H1, e1⟩ : ∃ H1, upd H t (.tup []) = H1 := ⟨_, rfl⟩
  rw [e1] at k1 hx1 ht1 ⊢
  refine ⟨_, rfl, x, CStore, dx, [], rfl, hx1, T.cl, T.nL, by show 0 < 1000; decide, ?_⟩
  rw [put_l1]
  refine ⟨_, rfl, _, rfl, x, CStore, dx, _, rfl, upd_same, T.cl, T.nB, by show 1 < 1000; decide, ?_⟩
  rw [put_l2]
  have k3 : Kp [x] H1 (upd (upd H1 x (.ins CStore dx [("_log", .ref t)])) x (.ins CStore dx [("_log", .ref t), ("_budget", .int B)])) := (Kp.put (List.mem_singleton.mpr rfl)).trans (Kp.put (List.mem_singleton.mpr rfl))
  have hx3 : (upd (upd H1 x (.ins CStore dx [("_log", .ref t)])) x (.ins CStore dx [("_log", .ref t), ("_budget", .int B)])) x = some (.ins CStore dx [("_log", .ref t), ("_budget", .int B)]) := upd_same
  obtain ⟨H3, e3⟩ : ∃ H3, upd (upd H1 x (.ins CStore dx [("_log", .ref t)])) x (.ins CStore dx [("_log", .ref t), ("_budget", .int B)]) = H3 := ⟨_, rfl⟩
  rw [e3] at k3 hx3 ⊢
  refine ⟨by show 0 ≤ sizeLine; omega, fun t2 nt2 => ?_⟩
  have nt2x : t2 ≠ x := fun z => by rw [z, hx3] at nt2; cases nt2
  have k03 := k1.trans k3
  have nt2H : H t2 = none := by
    cases h : H t2 with
    | none => rfl
    | some o => rw [k03 _ _ (by simpa using nt2x) h] at nt2; cases nt2
  have k4 : Kp [x] H3 (upd H3 t2 (.tup [])) := Kp.laid nt2
  have hx4 : (upd H3 t2 (.tup [])) x = some (.ins CStore dx [("_log", .ref t), ("_budget", .int B)]) := by rw [upd_ne nt2x.symm]; exact hx3
  have ht2 : (upd H3 t2 (.tup [])) t2 = some (.tup []) := upd_same
  obtain ⟨H4, e4⟩ : ∃ H4, upd H3 t2 (.tup []) = H4 := ⟨_, rfl⟩
  rw [e4] at k4 hx4 ht2 ⊢
  refine ⟨_, rfl, x, CStore, dx, _, rfl, hx4, T.cl, T.nR, by show 2 < 1000; decide, ?_⟩
  rw [put_l3]
  have k5 : Kp [x] H4 (upd H4 x (.ins CStore dx [("_log", .ref t), ("_budget", .int B), ("_retracted", .ref t2)])) := Kp.put (List.mem_singleton.mpr rfl)
  have hx5 : (upd H4 x (.ins CStore dx [("_log", .ref t), ("_budget", .int B), ("_retracted", .ref t2)])) x = some (.ins CStore dx [("_log", .ref t), ("_budget", .int B), ("_retracted", .ref t2)]) := upd_same
  obtain ⟨H5, e5⟩ : ∃ H5, upd H4 x (.ins CStore dx [("_log", .ref t), ("_budget", .int B), ("_retracted", .ref t2)]) = H5 := ⟨_, rfl⟩
  rw [e5] at k5 hx5 ⊢
  refine ⟨by show 0 ≤ sizeLine; omega, fun l nl => ?_⟩
  have nlx : l ≠ x := fun z => by rw [z, hx5] at nl; cases nl
  have k05 := (k03.trans k4).trans k5
  have nlH : H l = none := by
    cases h : H l with
    | none => rfl
    | some o => rw [k05 _ _ (by simpa using nlx) h] at nl; cases nl
  have k6 : Kp [x] H5 (upd H5 l (.lst [])) := Kp.laid nl
  have hx6 : (upd H5 l (.lst [])) x = some (.ins CStore dx [("_log", .ref t), ("_budget", .int B), ("_retracted", .ref t2)]) := by rw [upd_ne nlx.symm]; exact hx5
  have hl6 : (upd H5 l (.lst [])) l = some (.lst []) := upd_same
  obtain ⟨H6, e6⟩ : ∃ H6, upd H5 l (.lst []) = H6 := ⟨_, rfl⟩
  rw [e6] at k6 hx6 hl6 ⊢
  refine ⟨_, rfl, x, CStore, dx, _, rfl, hx6, T.cl, T.nN, by show 3 < 1000; decide, ?_⟩
  rw [put_l4]
  have k7 : Kp [x] H6 (upd H6 x (.ins CStore dx (stF (.ref t) (.int B) (.ref t2) (.ref l)))) := Kp.put (List.mem_singleton.mpr rfl)
  have tx : t ∉ [x] := by simpa using ntx
  have t2x : t2 ∉ [x] := by simpa using nt2x
  have lx : l ∉ [x] := by simpa using nlx
  refine q _ ((k05.trans k6).trans k7) ⟨dx, .ref t, t2, l, [], upd_same, ⟨t, [], rfl, nte, ?_, rfl⟩, ?_, lv.fresh nt2H, k7 _ _ lx hl6, lv.fresh nlH⟩
  · exact k7 _ _ tx (k6 _ _ tx (k5 _ _ tx (k4 _ _ tx (k3 _ _ tx ht1))))
  · exact k7 _ _ t2x (k6 _ _ t2x (k5 _ _ t2x ht2))
theorem ok_stkeep (DStoreKeep : Mt K CStore "_keep" "Store._keep" sStoreKeep ["self", "log", "budget"]) (T : StTxt K CStore) (DKeptEntries : Fn K mg "kept_entries" sKeptEntries ["log", "budget"]) (gID : ∃ u, mg "ID" = some u ∧ L2.RelV (.int 1) u) (GKeptEntries : FnOk P w K mg base CX0 5 DKeptEntries.f DKeptEntries.fd ["log", "budget"] spKept) :
    FnOk P w K mg base CX0 6 DStoreKeep.f DStoreKeep.fd ["self", "log", "budget"] (spStKeep CStore) := by
  refine DStoreKeep.F.ok scStoreKeep (fun vs H Q E h => ?_) (fun cdv A outer s H vs Q E hr h => ?_)
  · obtain ⟨p, v, es, es0, B, B0, gone, ex, rfl, _⟩ := h
    rfl
  obtain ⟨p, v, es, es0, B, B0, gone, ex, rfl, sa, hp, rv, ok, h60, lv, q⟩ := h
  have hu := hu_of hr
  have line : (100000 : Nat) < sizeLine := by decide
  obtain ⟨dx, lv0, ra, na, ns, h1, h2, h3, h4, h5, h6⟩ := sa.ob
  refine ⟨_, pss_cons (ps_fld (pv 0) (pe_fn DKeptEntries GKeptEntries hr (pa_cons (pv 1) (pa_cons (pv 2) pa_nil))) rfl)
      (pss_cons (ps_fld (pv 0) (pv 2) rfl)
      (pss_cons (ps_set (i := 3) scStoreKeep.nd rfl (.inr rfl) (pe_dc (own := [("entry", 4)]) (g := gName 4) (tt := tYes) (by rfl) scStoreKeep.nd (piTupE K (pe_fld (pv 0) rfl)) (blkOk_by (N := ["self", "log", "budget", "kept", "entry"]) (sc := defScope sStoreKeep) (by decide +kernel)) (fun _ _ _ _ _ => (pg_name (i := 4) scStoreKeep.nd rfl (.inl rfl))) (fun _ _ _ _ _ => pts_nil) (fun _ _ _ _ _ => (pe_ix (ixtE K) (pv 4) (pe_gc (v := .int 1) rfl gID) (fun _ _ => rfl))) (fun _ _ _ _ _ => pe_bl)))
      (pss_one (ps_ret (pe_lc (own := [("entry", 4)]) (g := gName 4) (by rfl) scStoreKeep.nd (piTupE K (pv 1)) (blkOk_by (N := ["self", "log", "budget", "kept", "entry"]) (sc := defScope sStoreKeep) (by decide +kernel)) (fun _ _ _ _ _ => (pg_name (i := 4) scStoreKeep.nd rfl (.inl rfl))) (fun _ _ _ _ _ => (pts_one (pt_cmp (pc_dnotin hu (pe_ix (ixtE K) (pv 4) (pe_gc (v := .int 1) rfl gID) (fun _ _ => rfl)) (pv 3))))) (fun _ _ _ _ _ => (pe_ix (ixtE K) (pv 4) (pe_gc (v := .int 1) rfl gID) (fun _ _ => rfl)))))))), ?_⟩
  refine ⟨_, rfl, _, rfl, v, es, ex, B, rfl, rv, ok, h60, lv, fun lp H1 k1 r1 => ?_⟩
  have h11 := k1 _ _ (by simp) h1
  refine ⟨_, rfl, p, CStore, dx, _, rfl, h11, T.cl, T.nL, by show 4 < 1000; decide, ?_⟩
  rw [put_log]
  refine ⟨_, rfl, _, rfl, p, CStore, dx, _, rfl, upd_same, T.cl, T.nB, by show 4 < 1000; decide, ?_⟩
  rw [put_budget]
  have k2 : Kp [p] H1 (upd (upd H1 p (.ins CStore dx (stF (.ref lp) (.int B0) (.ref ra) (.ref na)))) p (.ins CStore dx (stF (.ref lp) (.int B) (.ref ra) (.ref na)))) := (Kp.put (List.mem_singleton.mpr rfl)).trans (Kp.put (List.mem_singleton.mpr rfl))
  have hp2 : (upd (upd H1 p (.ins CStore dx (stF (.ref lp) (.int B0) (.ref ra) (.ref na)))) p (.ins CStore dx (stF (.ref lp) (.int B) (.ref ra) (.ref na)))) p = some (.ins CStore dx (stF (.ref lp) (.int B) (.ref ra) (.ref na))) := upd_same
  obtain ⟨H2, e2⟩ : ∃ H2, upd (upd H1 p (.ins CStore dx (stF (.ref lp) (.int B0) (.ref ra) (.ref na)))) p (.ins CStore dx (stF (.ref lp) (.int B) (.ref ra) (.ref na))) = H2 := ⟨_, rfl⟩
  rw [e2] at k2 hp2 ⊢
  have sub : ∀ b ∈ [p], b ∈ ex := fun b hb => by rw [List.mem_singleton.mp hb]; exact hp
  have r2 := Rp.keep (k2.mono sub) _ _ r1
  have k02 : Kp [p] H H2 := (k1.mono (by simp)).trans k2
  have rv2 := Rp.keep (k02.mono sub) _ _ rv
  have lv2 : Live ex H2 := fun b hb h0 => by
    by_cases z : b = p
    · rw [z, hp2] at h0; cases h0
    · cases hH : H b with
      | none => exact lv b hb hH
      | some o => rw [k02 _ _ (by simpa using z) hH] at h0; cases h0
  obtain ⟨a, xs, el, na_, ha, hx⟩ := id r2
  obtain rfl := V.ref.inj el
  have hl : (keptB B es).length = xs.length := len_data hx
  have kl60 : (keptB B es).length ≤ 60 := Nat.le_trans (keptB_sub B es).length_le h60
  refine ⟨_, rfl, p, CStore, dx, _, _, rfl, hp2, T.cl, T.nL, st_log, lp, rfl, ⟨xs, .inl (.inl ha)⟩, fun D nD => ?_⟩
  have kD : Kp [] H2 (upd H2 D (.dK [])) := Kp.laid nD
  have nDa : lp ≠ D := fun z => by rw [z, nD] at ha; cases ha
  have kk : ∀ {H' : Hp}, Kp [D] (upd H2 D (.dK [])) H' → Kp [] H2 H' := fun k => Kp.drop ((kD.mono (by simp)).trans k) nD
  have xi : ∀ i, i < (keptB B es).length → ∃ x, xs[i]? = some x := fun i hi => ⟨_, List.getElem?_eq_getElem (by omega)⟩
  refine dc_inv (J := Itt K lp) (keptB B es).length (fun j H' => Kp [D] (upd H2 D (.dK [])) H' ∧ GoneAt D (((keptB B es).map Ent.id).take j) j H') ⟨Kp.refl, [], upd_same, Nat.zero_le _, fun z => by simp [valV]⟩ ?_ (fun i H' hi ⟨k, _⟩ => (xi i hi).elim fun x hx => ⟨xs, x, .inl (.inl (kk k _ _ (by simp) ha)), hx⟩) ?_
  case refine_2 =>
    rintro i Hz x H3 hi ⟨k, kvs, e, l, gd⟩ ⟨rfl, hy⟩
    have haz := kk k _ _ (by simp) ha
    have hxi := hy xs (.inl (.inl haz))
    obtain ⟨ee, hee⟩ : ∃ ee, (keptB B es)[i]? = some ee := ⟨_, List.getElem?_eq_getElem hi⟩
    obtain ⟨x', hx', rx⟩ := ent_at (RpAll.keep ((kk k).mono (ex' := ex) (by simp)) _ _ hx) hee
    rw [hxi] at hx'
    obtain rfl := Option.some.inj hx'
    obtain ⟨d1, ed1, hd1, _⟩ := ent_reads ee
    refine ⟨rfl, yes_on ?_⟩
    refine ⟨_, rfl, c_of (ent_ix rx ed1 hd1 rfl fun vi ri => ?_)⟩
    obtain rfl : vi = .str ee.id := ri
    refine ⟨kvs, Sum.inr ee.id, rfl, e, by omega, k.trans (Kp.put (by simp)), ?_⟩
    have := GoneAt.put (z := ee.id) (v := .bl true) e l gd
    rw [List.take_add_one, List.getElem?_map, hee]
    exact this
  case refine_1 =>
    rintro H3 ⟨k, gd⟩
    refine ⟨⟨xs, .inl (.inl (kk k _ _ (by simp) ha)), by omega⟩, ?_⟩
    rw [show (keptB B es).length = ((keptB B es).map Ent.id).length by rw [List.length_map], List.take_length] at gd
    obtain ⟨kvs, hD, l, gd⟩ := gd
    have k23 := kk k
    have rv3 := Rp.keep (k23.mono (ex' := ex) (by simp)) _ _ rv2
    have lv3 := lv2.kp0 k23
    obtain ⟨av, vxs, rfl, nav, hav, hvx⟩ := id rv3
    have hvl : es.length = vxs.length := len_data hvx
    refine ⟨_, rfl, av, rfl, ⟨_, .inl (.inl hav)⟩, fun C nC => ?_⟩
    have nDC : D ≠ C := fun z => by rw [z, nC] at hD; cases hD
    refine lc_ents (J := Itt K av) (gs := es) (ex := ex) (fun e => .str e.id) (fun e => decide (e.id ∉ (keptB B es).map Ent.id)) (walks_tup hav nC) nC hvx (by omega) (fun e x H4 Q4 hm k4 r4 q4 => ?_) (fun e x H4 Q4 hm _ k4 r4 q4 => ?_) (fun H5 ws k5 e5 r5 => ?_) fun x => wipe_one _ _ _
    · obtain ⟨d1, ed1, hd1, _⟩ := ent_reads e
      refine ⟨_, rfl, c_of (ent_ix r4 ed1 hd1 rfl fun vi ri => ?_)⟩
      obtain rfl : vi = .str e.id := ri
      refine ⟨_, rfl, D, _, rfl, DGet.k (k := Sum.inr e.id) (k4 _ _ (by simpa using nDC) hD), ?_⟩
      refine ⟨_, rfl, ?_⟩
      have e9 : (!(valV kvs (Sum.inr e.id : Key)).isSome) = decide (e.id ∉ (keptB B es).map Ent.id) := by
        rw [gd e.id]
        by_cases hm9 : e.id ∈ (keptB B es).map Ent.id
        · rw [decide_eq_true hm9, decide_eq_false (fun h => h hm9)]; rfl
        · rw [decide_eq_false hm9, decide_eq_true hm9]; rfl
      rw [e9]
      exact q4 H4 Kp.refl
    · obtain ⟨d1, ed1, hd1, _⟩ := ent_reads e
      refine ⟨_, rfl, c_of (ent_ix r4 ed1 hd1 rfl fun vi ri => ?_)⟩
      obtain rfl : vi = .str e.id := ri
      exact q4 _ H4 Kp.refl rfl
    have k35 : Kp [] H3 H5 := Kp.drop k5 nC
    have k25 := k23.trans k35
    have ews : ws = (lostS B es).map V.str := by
      have : (es.filter fun e => decide (e.id ∉ (keptB B es).map Ent.id)).map (fun e => PyData.str e.id) = (lostS B es).map PyData.str := by unfold lostS; rw [List.map_map]; rfl
      rw [this] at r5
      exact strs_of r5
    rw [ews] at e5
    have nCH : H C = none := by
      cases h : H C with
      | none => rfl
      | some o =>
        have nCp : C ≠ p := fun z => by rw [z, k23 _ _ (by simp) hp2] at nC; cases nC
        rw [k23 _ _ (by simp) (k02 _ _ (by simpa using nCp) h)] at nC
        cases nC
    have k02' := k02.mono sub
    refine q C H5 (k02.trans (k25.mono (by simp))) nCH e5 ⟨dx, .ref lp, ra, na, ns, k25 _ _ (by simp) hp2, Rp.keep (k25.mono (by simp)) _ _ r2, k25 _ _ (by simp) (k02' _ _ h4 h3), h4, k25 _ _ (by simp) (k02' _ _ h6 h5), h6⟩
theorem ok_stlow (DStoreLowerBudget : Mt K CStore "lower_budget" "Store.lower_budget" sStoreLowerBudget ["self", "budget"]) (T : StTxt K CStore) (DStoreKeep : Mt K CStore "_keep" "Store._keep" sStoreKeep ["self", "log", "budget"]) (DCheckBudget : Fn K mg "check_budget" sCheckBudget ["budget"]) (GCheckBudget : FnOk P w K mg base CX0 2 DCheckBudget.f DCheckBudget.fd ["budget"] spBudget) (GStoreKeep : FnOk P w K mg base CX0 6 DStoreKeep.f DStoreKeep.fd ["self", "log", "budget"] (spStKeep CStore)) :
    FnOk P w K mg base CX0 7 DStoreLowerBudget.f DStoreLowerBudget.fd ["self", "budget"] (spStLow CStore) := by
  refine DStoreLowerBudget.F.ok scStoreLowerBudget (fun vs H Q E h => ?_) (fun cdv A outer s H vs Q E hr h => ?_)
  · obtain ⟨p, es, B, B', gone, ex, rfl, _⟩ := h
    rfl
  obtain ⟨p, es, B, B', gone, ex, rfl, sa, hp, ok, h60, B0, hB, B9, lv, q⟩ := h
  obtain ⟨dx, lv0, ra, na, ns, h1, h2, h3, h4, h5, h6⟩ := id sa.ob
  have cStore := T.cl
  refine ⟨_, pss_cons (ps_expr (pe_fn DCheckBudget GCheckBudget hr (pa_cons (pv 1) pa_nil)))
      (pss_cons (ps_if (pt_cmpR op_gt (pv 1) (pe_fld (pv 0) rfl) (nomark _))
      (pss_dead _)
      pss_nil)
      (pss_one (ps_ret (pe_mth (pv 0) cStore DStoreKeep GStoreKeep hr (pa_cons (pe_fld (pv 0) rfl) (pa_cons (pv 1) pa_nil)))))), ?_⟩
  refine ⟨_, rfl, B', rfl, B0, by omega, ?_⟩
  refine ⟨_, rfl, _, rfl, p, CStore, dx, _, _, rfl, h1, T.cl, T.nB, st_budget, B', B, rfl, rfl, _, rfl, ?_⟩
  rw [decide_eq_false (by omega)]
  refine iteF ?_
  refine ⟨_, rfl, p, dx, _, rfl, h1, rfl, _, rfl, p, CStore, dx, _, _, rfl, h1, T.cl, T.nL, st_log, _, rfl, ?_⟩
  exact ⟨p, lv0, es, es, B', B, gone, ex, rfl, sa, hp, h2, ok, h60, lv, q⟩
theorem ok_stadd (DStoreAdd : Mt K CStore "add" "Store.add" sStoreAdd ["self", "entry"]) (T : StTxt K CStore) (DStoreKeep : Mt K CStore "_keep" "Store._keep" sStoreKeep ["self", "log", "budget"]) (DIsEntry : Fn K mg "is_entry" sIsEntry ["value"]) (DCheckMayBeRetracted : Fn K mg "check_may_be_retracted" sCheckMayBeRetracted ["entry"]) (b_len : mg "len" = none) (gID : ∃ u, mg "ID" = some u ∧ L2.RelV (.int 1) u) (gMOST_ENTRIES : ∃ u, mg "MOST_ENTRIES" = some u ∧ L2.RelV (.int 60) u)
    (GIsEntry : FnOk P w K mg base CX0 5 DIsEntry.f DIsEntry.fd ["value"] (spAskD entryD)) (GCheckMayBeRetracted : FnOk P w K mg base CX0 1 DCheckMayBeRetracted.f DCheckMayBeRetracted.fd ["entry"] spMayBe) (GStoreKeep : FnOk P w K mg base CX0 6 DStoreKeep.f DStoreKeep.fd ["self", "log", "budget"] (spStKeep CStore)) :
    FnOk P w K mg base CX0 7 DStoreAdd.f DStoreAdd.fd ["self", "entry"] (spStAdd CStore) := by
  refine DStoreAdd.F.ok scStoreAdd (fun vs H Q E h => ?_) (fun cdv A outer s H vs Q E hr h => ?_)
  · obtain ⟨p, v, es, e, B, gone, ex, rfl, _⟩ := h
    rfl
  obtain ⟨p, v, es, e, B, gone, ex, rfl, sa, hp, rv, ok, h60, may, g1000, lv, q⟩ := h
  have line : (100000 : Nat) < sizeLine := by decide
  have cStore := T.cl
  have eok : e.Ok := ok.ok e (by simp)
  have free : e.id ∉ es.map Ent.id := fun hm => by
    have := ok.nd
    rw [List.map_append] at this
    exact (List.nodup_append.mp this).2.2 _ hm _ (by simp) rfl
  have up : ∀ {Hx Hy : Hp} {d : PyData} {u : V}, Kp [] Hx Hy → Rp ex Hx d u → Rp ex Hy d u := fun k r => Rp.keep (k.mono (by simp)) _ _ r
  refine ⟨_, pss_cons (ps_if (pt_not (pt_val (pe_fn DIsEntry GIsEntry hr (pa_cons (pv 1) pa_nil))))
      (pss_dead _)
      pss_nil)
      (pss_cons (ps_if (pt_cmpR (inE K) (pe_ix (ixtE K) (pv 1) (pe_gc (v := .int 1) rfl gID) (fun _ _ => rfl)) (pe_lc (own := [("kept", 2)]) (g := gName 2) (tt := tYes) (by rfl) scStoreAdd.nd (piTupE K (pe_fld (pv 0) rfl)) (blkOk_by (N := ["self", "entry", "kept"]) (sc := defScope sStoreAdd) (by decide +kernel)) (fun _ _ _ _ _ => (pg_name (i := 2) scStoreAdd.nd rfl (.inl rfl))) (fun _ _ _ _ _ => pts_nil) (fun _ _ _ _ _ => (pe_ix (ixtE K) (pv 2) (pe_gc (v := .int 1) rfl gID) (fun _ _ => rfl)))) (by rfl))
      (pss_dead _)
      pss_nil)
      (pss_cut (ps_if (pt_cmpR (inE K) (pe_ix (ixtE K) (pv 1) (pe_gc (v := .int 1) rfl gID) (fun _ _ => rfl)) (pe_fld (pv 0) rfl) (by rfl))
      (pss_one (ps_expr (pe_fn DCheckMayBeRetracted GCheckMayBeRetracted hr (pa_cons (pv 1) pa_nil))))
      pss_nil)
      (pss_cons (ps_if (pt_cmpR op_ge (pe_callB (lenE K) (by rfl) b_len (by decide +kernel) (pa_cons (pe_fld (pv 0) rfl) pa_nil)) (pe_gc (v := .int 60) rfl gMOST_ENTRIES) (nomark _))
      (pss_dead _)
      pss_nil)
      (pss_one (ps_ret (pe_mth (pv 0) cStore DStoreKeep GStoreKeep hr (pa_cons (pe_op op_catA (pe_fld (pv 0) rfl) (pe_tup (pa_cons (pv 1) pa_nil))) (pa_cons (pe_fld (pv 0) rfl) pa_nil)))))))), ?_⟩
  refine ⟨_, rfl, v, e.data, ex, rfl, rv, (ent_dok eok).nice, fun H1 k1 => ⟨_, rfl, ?_⟩⟩
  rw [entry_data eok]
  refine iteF ?_
  have sa1 := sa.keep k1 (by simp) (by simp)
  have rv1 := up k1 rv
  have lv1 := lv.kp0 k1
  obtain ⟨dx, lv0, ra, na, ns, h1, h2, h3, h4, h5, h6⟩ := id sa1.ob
  obtain ⟨d1, ed1, hd1, _⟩ := ent_reads e
  obtain ⟨a, xs, rfl, na_, ha, hx⟩ := id h2
  have hl : es.length = xs.length := len_data hx
  refine ⟨_, rfl, c_of (ent_ix rv1 ed1 hd1 rfl fun vi ri => ?_)⟩
  obtain rfl : vi = .str e.id := ri
  refine ⟨_, rfl, p, CStore, dx, _, _, rfl, h1, T.cl, T.nL, st_log, a, rfl, ⟨_, .inl (.inl ha)⟩, fun C nC => ?_⟩
  refine lc_ents (J := Itt K a) (gs := es) (ex := ex) (fun e => .str e.id) (fun _ => true) (walks_tup ha nC) nC hx (by omega) (fun u x H2 Q2 hm k2 r2 q2 => by exact q2 H2 Kp.refl) (fun u x H2 Q2 hm _ k2 r2 q2 => ?_) (fun H2 ws k2 e2 r2 => ?_) fun x => wipe_one _ _ _
  · obtain ⟨d1, ed1, hd1, _⟩ := ent_reads u
    refine ⟨_, rfl, c_of (ent_ix r2 ed1 hd1 rfl fun vi ri => ?_)⟩
    obtain rfl : vi = .str u.id := ri
    exact q2 _ H2 Kp.refl rfl
  have k12 : Kp [] H1 H2 := Kp.drop k2 nC
  have ews : ws = (es.map Ent.id).map V.str := by
    have : (es.filter fun _ => true).map (fun e => PyData.str e.id) = (es.map Ent.id).map PyData.str := by
      rw [List.filter_eq_self.mpr fun _ _ => rfl, List.map_map]
      rfl
    rw [this] at r2
    exact strs_of r2
  rw [ews] at e2
  refine in_lst false e2 ⟨_, rfl, ?_⟩
  rw [if_neg Bool.false_ne_true, decide_eq_false free]
  refine iteF ?_
  have sa2 := sa1.keep k12 (by simp) (by simp)
  have rv2 := up k12 rv1
  have lv2 := lv1.kp0 k12
  have h12 := k12 _ _ (by simp) h1
  have h32 := k12 _ _ (by simp) h3
  have ha2 := k12 _ _ (by simp) ha
  refine ⟨fun σ' H' => σ' = [some (.ref p), some v, none] ∧ H' = H2, ?_, ?_⟩
  · refine ⟨_, rfl, c_of (ent_ix rv2 ed1 hd1 rfl fun vi ri => ?_)⟩
    obtain rfl : vi = .str e.id := ri
    refine ⟨_, rfl, p, CStore, dx, _, _, rfl, h12, T.cl, T.nR, st_gone, in_tupS h32 ⟨_, rfl, ?_⟩⟩
    by_cases hg : e.id ∈ gone
    · rw [decide_eq_true hg]
      exact iteT ⟨_, rfl, v, e, ex, rfl, rv2, (may hg).1, (may hg).2, rfl, rfl⟩
    · rw [decide_eq_false hg]
      exact iteF ⟨rfl, rfl⟩
  · rintro σ' H' ⟨rfl, rfl⟩
    refine ⟨_, rfl, p, CStore, dx, _, _, rfl, h12, T.cl, T.nL, st_log, a, xs, rfl, .inr (.inl (.inl ha2)), _, _, rfl, rfl, _, rfl, ?_⟩
    rw [decide_eq_false (by omega)]
    refine iteF ?_
    refine ⟨_, rfl, p, dx, _, rfl, h12, rfl, _, rfl, p, CStore, dx, _, _, rfl, h12, T.cl, T.nL, st_log, _, rfl, by show 1 ≤ sizeLine; omega, fun t nt => ?_⟩
    have k3 : Kp [] H' (upd H' t (.tup [v])) := Kp.laid nt
    have r3 : Rp ex (upd H' t (.tup [v])) (logD [e]) (.ref t) := rp_new (lv2.fresh nt) nt ⟨v, [], rfl, rv2, rfl⟩
    have rl3 := up k3 (up k12 h2)
    obtain ⟨H3, e3⟩ : ∃ H3, upd H' t (.tup [v]) = H3 := ⟨_, rfl⟩
    rw [e3] at k3 r3 rl3 ⊢
    refine cat_log rl3 r3 (lv2.kp0 k3) (by show es.length + 1 ≤ 1000; omega) fun p4 H4 k4 r4 => ?_
    have k24 := k3.trans k4
    have h14 := k24 _ _ (by simp) h12
    refine ⟨_, rfl, p, CStore, dx, _, _, rfl, h14, T.cl, T.nB, st_budget, ?_⟩
    have k04 := (k1.trans k12).trans k24
    refine ⟨p, .ref p4, es ++ [e], es, B, B, gone, ex, rfl, sa2.keep k24 (by simp) (by simp), hp, r4, ok, by rw [List.length_append]; show es.length + 1 ≤ 60; omega, lv2.kp0 k24, fun d H5 k5 n5 h5 s5 => ?_⟩
    refine q d H5 ((k04.mono (by simp)).trans k5) ?_ h5 s5
    cases h : H d with
    | none => rfl
    | some o => rw [k04 _ _ (by simp) h] at n5; cases n5
end
end NV
/-! D1 -/

/-! D2 -/
set_option Elab.async false
set_option linter.all false
set_option maxRecDepth 100000
set_option maxHeartbeats 600000
namespace NV
open PySem PySem.Spec PyProof.Rows L2
open C8 (pss_cut)
abbrev sLawTake : Stmt := topS 68
theorem scLawTake : FnScope ["draw", "size", "mixed", "found", "turn", "number"] ["draw", "size"] (defScope sLawTake) := ⟨rfl, rfl, rfl, by decide +kernel, rfl, by decide +kernel, by decide +kernel⟩
def spTake : Sp := fun vs H Q _ => ∃ (D : Dr) (n : Nat) (size : Int), vs = [.ref D.d, .int size] ∧ 0 < size ∧ size < 1073741824 ∧ DrAt D (n + 1) H ∧ ∀ i H', 0 ≤ i → i < size → Kp D.ex H H' → DrAt D n H' → Q (.int i) H'
section
variable {P : Program} {w : World} {K : PySem.W.Frag} {mg : Str → Option Value} {base : Heap}
theorem ok_take (DLawTake : Fn K mg "_law_take" sLawTake ["draw", "size"]) (b_len : mg "len" = none) : FnOk P w K mg base CX0 2 DLawTake.f DLawTake.fd ["draw", "size"] spTake := by
  refine DLawTake.F.ok scLawTake (fun vs H Q E h => ?_) (fun cdv A outer s H vs Q E hr h => ?_)
  · obtain ⟨D, n, size, rfl, _⟩ := h
    rfl
  obtain ⟨D, n, size, rfl, z0, z1, hD, q⟩ := h
  have hu := hu_of hr
  refine ⟨_, pss_cons (ps_while PassesOwn.never (PW.pt (pw_and (pt_cmpR op_eq (pe_dget hu (pv 0) pe_str (fun _ _ => rfl)) pe_int (nomark _)) (pw_and1 (pt_cmpR (op_neNil K hr.units) (pe_dget hu (pv 0) pe_str (fun _ _ => rfl)) (pe_lst pa_nil) (nomark _)))))
      (pss_one (ps_dput hu (pv 0) pe_str (bmE K PySem.F.plainAttrs_list PySem.F.slot_list_pop PySem.F.type_list_pop mt_popAt (pe_dget hu (pv 0) pe_str (fun _ _ => rfl)) (pa_cons pe_int pa_nil)) rfl)))
      (pss_cons (ps_if (pt_cmpR op_gt (pe_dget hu (pv 0) pe_str (fun _ _ => rfl)) pe_int (nomark _))
      (pss_cons (ps_set (i := 3) scLawTake.nd rfl (.inl rfl) (pe_op op_modN (pe_dget hu (pv 0) pe_str (fun _ _ => rfl)) (pv 1)))
      (pss_cons (ps_dput hu (pv 0) pe_str (pe_op op_fdivN (pe_dget hu (pv 0) pe_str (fun _ _ => rfl)) (pv 1)) rfl)
      (pss_one (ps_ret (pv 3)))))
      pss_nil)
      (pss_cons (ps_dput hu (pv 0) pe_str (pe_op op_add (pe_dget hu (pv 0) pe_str (fun _ _ => rfl)) pe_int) rfl)
      (pss_cons (ps_par (i := 4) (j := 5) rfl scLawTake.nd rfl rfl (by decide) rfl rfl (pa_cons (pe_dget hu (pv 0) pe_str (fun _ _ => rfl)) (pa_cons pe_int pa_nil)) rfl)
      (pss_cut (ps_if (pt_cmpR (op_neNil K hr.units) (pe_dget hu (pv 0) pe_str (fun _ _ => rfl)) (pe_lst pa_nil) (nomark _))
      (pss_one (ps_set (i := 5) scLawTake.nd rfl (.inl rfl) (pe_ix (ixlE K) (pe_dget hu (pv 0) pe_str (fun _ _ => rfl)) (pe_op op_modN (pv 4) (pe_callB (lenE K) (by rfl) b_len (by decide +kernel) (pa_cons (pe_dget hu (pv 0) pe_str (fun _ _ => rfl)) pa_nil))) (fun _ _ => rfl))))
      pss_nil)
      (pss_cons (ps_set (i := 2) scLawTake.nd rfl (.inl rfl) (pe_op op_modN (pe_op op_pow (pe_op op_add (pe_op op_add (pe_op op_modN (pv 5) pe_int) (pe_op op_mul pe_int (pv 4))) pe_int) pe_int) pe_int))
      (pss_one (ps_ret (pe_op op_modN (pe_op op_fdivN (pe_op op_modN (pe_op op_pow (pe_op op_add (pv 2) (pe_op op_mul pe_int (pv 4))) pe_int) pe_int) pe_int) (pv 1))))))))), ?_⟩
  obtain ⟨nd1, nd2⟩ := hD.nd
  have hd' : D.d ∈ D.ex := List.mem_cons_self
  have hl' : D.l ∈ D.ex := List.mem_cons_of_mem _ List.mem_cons_self
  have itex : D.it ∉ D.ex := by
    intro z
    rcases List.mem_cons.mp z with z | z
    · exact nd2 z.symm
    · exact hD.ne (List.mem_singleton.mp z)
  obtain ⟨ne, large0, items0, left0, turn0, g1, g2, g3, ⟨g4, g5, g6⟩, g7, g8⟩ := hD
  refine ⟨fun m σ H' => ∃ (large : List Int) (left : Int), σ = [some (.ref D.d), some (.int size), none, none, none, none] ∧ Kp D.ex H H' ∧ H' D.d = some (.dK (drV D left turn0)) ∧ H' D.l = some (.lst (large.map V.int)) ∧ H' D.it = some (.lst (items0.map V.int)) ∧ 0 ≤ left ∧ (∀ x ∈ large, 0 ≤ x) ∧ m = large.length, ⟨_, large0, left0, rfl, Kp.refl, g1, g2, g3, g4, g7, rfl⟩, ?_⟩
  rintro m σ H1 ⟨large, left, rfl, k1, h1, h2, h3, h4, h7, rfl⟩
  refine ⟨_, rfl, D.d, .int left, rfl, dr_left ▸ DGet.k (k := kLeft) h1, rfl, _, rfl, ite2 (fun c => ?_) (fun c => ?_)⟩
  · have l0 : left = 0 := V.int.inj (of_decide_eq_true c)
    subst l0
    refine ⟨_, rfl, D.d, _, rfl, dr_large ▸ DGet.k (k := kLarge) h1, Nat.zero_le _, fun p hp => ?_⟩
    have kp : Kp [] H1 (upd H1 p (.lst [])) := Kp.laid hp
    have e1 : upd H1 p (.lst []) p = some (.lst []) := upd_same
    have k2 : Kp D.ex H (upd H1 p (.lst [])) := k1.trans (kp.mono (by simp))
    have j1 := kp _ _ (by simp) h1
    have j2 := kp _ _ (by simp) h2
    have j3 := kp _ _ (by simp) h3
    obtain ⟨H2, eH⟩ : ∃ H2, upd H1 p (.lst []) = H2 := ⟨_, rfl⟩
    rw [eH] at kp e1 k2 j1 j2 j3 ⊢
    refine ⟨D.l, p, _, rfl, rfl, SqL.of j2, SqL.of e1, _, rfl, ?_⟩
    cases large with
    | cons x r =>
      refine iteT ⟨fun σ H' => ∃ (large : List Int) (left : Int), (σ = [some (.ref D.d), some (.int size), none, none, none, none] ∧ Kp D.ex H H' ∧ H' D.d = some (.dK (drV D left turn0)) ∧ H' D.l = some (.lst (large.map V.int)) ∧ H' D.it = some (.lst (items0.map V.int)) ∧ 0 ≤ left ∧ (∀ x ∈ large, 0 ≤ x)) ∧ large.length < (x :: r).length, fun σ' H' ⟨lg, lf, ⟨a1, a2, a3, a4, a5, a6, a7⟩, a8⟩ => ⟨_, a8, lg, lf, a1, a2, a3, a4, a5, a6, a7, rfl⟩, ?_⟩
      refine ⟨_, rfl, D.d, _, rfl, dg_large j1, .inl ⟨rfl, _, SqL.of j2⟩, D.l, _, 0, 0, .int x, rfl, rfl, j2, by decide, by decide, sq_at (Int.le_refl 0) (by simp), rfl, ?_⟩
      have j1' : upd H2 D.l (.lst (((x :: r).map V.int).eraseIdx 0)) D.d = some (.dK (drV D 0 turn0)) := by rw [upd_ne nd1]; exact j1
      refine ⟨_, rfl, D.d, _, rfl, DPut.k (k := kLeft) j1' (by show 4 < sizeLine; decide), ?_⟩
      rw [dr_putLeft]
      refine ⟨r, x, ⟨rfl, k2.trans ((Kp.put hl').trans (Kp.put hd')), upd_same, ?_, ?_, h7 x List.mem_cons_self, fun y hy => h7 y (List.mem_cons_of_mem _ hy)⟩, by rw [List.length_cons]; omega⟩
      · rw [upd_ne (Ne.symm nd1), upd_same]
        rfl
      · rw [upd_ne (Ne.symm nd2), upd_ne ne]
        exact j3
    | nil =>
      refine iteF ?_
      refine ⟨_, rfl, D.d, .int 0, rfl, dr_left ▸ DGet.k (k := kLeft) j1, 0, 0, rfl, rfl, _, rfl, iteF ?_⟩
      -- a mixed number
      refine ⟨_, rfl, D.d, .int turn0, rfl, dr_turn ▸ DGet.k (k := kTurn) j1, turn0, 1, rfl, rfl, _, rfl, D.d, _, rfl, DPut.k (k := kTurn) j1 (by show 4 < sizeLine; decide), ?_⟩
      rw [dr_putTurn]
      have k3 : Kp D.ex H (upd H2 D.d (.dK (drV D 0 (turn0 + 1)))) := k2.trans (Kp.put hd')
      have i1 : (upd H2 D.d (.dK (drV D 0 (turn0 + 1)))) D.d = some (.dK (drV D 0 (turn0 + 1))) := upd_same
      have i2 : (upd H2 D.d (.dK (drV D 0 (turn0 + 1)))) D.l = some (.lst (([] : List Int).map V.int)) := by rw [upd_ne (Ne.symm nd1)]; exact j2
      have i3 : (upd H2 D.d (.dK (drV D 0 (turn0 + 1)))) D.it = some (.lst (items0.map V.int)) := by rw [upd_ne (Ne.symm nd2)]; exact j3
      obtain ⟨H3, e3⟩ : ∃ H3, upd H2 D.d (.dK (drV D 0 (turn0 + 1))) = H3 := ⟨_, rfl⟩
      rw [e3] at k3 i1 i2 i3 ⊢
      refine ⟨_, rfl, D.d, .int (turn0 + 1), rfl, dr_turn ▸ DGet.k (k := kTurn) i1, _, _, rfl, ?_⟩
      have fin : ∀ {num : Int} {H4 : Hp}, Kp [] H3 H4 → DrAt D n H4 ∧ Kp D.ex H H4 := fun k => ⟨⟨ne, [], items0, 0, turn0 + 1, k _ _ (by simp) i1, k _ _ (by simp) i2, k _ _ (by simp) i3, ⟨by decide, by omega, by omega⟩, by simp, g8⟩, k3.trans (k.mono (by simp))⟩
      refine ⟨fun σ H4 => ∃ num : Int, σ = [some (.ref D.d), some (.int size), none, none, some (.int (turn0 + 1)), some (.int num)] ∧ Kp [] H3 H4, ?_, ?_⟩
      · refine ⟨_, rfl, D.d, _, rfl, dr_items ▸ DGet.k (k := kItems) i1, Nat.zero_le _, fun p2 hp2 => ?_⟩
        have kp2 : Kp [] H3 (upd H3 p2 (.lst [])) := Kp.laid hp2
        have o1 := kp2 _ _ (by simp) i1
        have o3 := kp2 _ _ (by simp) i3
        refine ⟨D.it, p2, _, rfl, rfl, SqL.of o3, SqL.of upd_same, _, rfl, ?_⟩
        cases hit : items0 with
        | nil => exact iteF ⟨0, rfl, kp2⟩
        | cons y ys =>
          rw [← hit]
          have len0 : 0 < items0.length := by rw [hit, List.length_cons]; omega
          rw [show (!(items0.map V.int).isEmpty) = true by rw [hit]; rfl]
          obtain ⟨m1, m2⟩ := fmod_in (i := turn0 + 1) (j := (items0.length : Int)) (by omega)
          have hlt : ((turn0 + 1).fmod (items0.length : Int)).toNat < items0.length := by omega
          refine iteT ⟨_, rfl, D.d, _, rfl, dr_items ▸ DGet.k (k := kItems) o1, _, rfl, _, rfl, D.d, _, rfl, dr_items ▸ DGet.k (k := kItems) o1, D.it, _, rfl, .inl (SqL.of o3), turn0 + 1, (items0.length : Int), rfl, by rw [List.length_map], (by show (items0.length : Int) ≠ 0; omega), D.it, _, (((turn0 + 1).fmod (items0.length : Int)).toNat : Int), .int (items0[((turn0 + 1).fmod (items0.length : Int)).toNat]), rfl, ?_, SqL.of o3, atI_nat ?_, items0[((turn0 + 1).fmod (items0.length : Int)).toNat], rfl, kp2⟩
          · rw [Int.toNat_of_nonneg m1]
          · rw [List.getElem?_map, List.getElem?_eq_getElem hlt]
            rfl
      · rintro σ H4 ⟨num, rfl, k4⟩
        obtain ⟨dr4, kH4⟩ := fin (num := num) k4
        obtain ⟨a1, a2⟩ := fmod_in (i := num) (j := 2147483629) (by decide)
        obtain ⟨mix, emix⟩ : ∃ mix, ((num.fmod 2147483629 + 69621 * (turn0 + 1) + 12345) ^ (3 : Int).toNat).fmod 2147483647 = mix := ⟨_, rfl⟩
        obtain ⟨b1, b2⟩ := fmod_in (i := (num.fmod 2147483629 + 69621 * (turn0 + 1) + 12345) ^ (3 : Int).toNat) (j := 2147483647) (by decide)
        rw [emix] at b1 b2
        refine ⟨_, rfl, num, 2147483629, rfl, rfl, (show (2147483629 : Int) ≠ 0 by decide), _, rfl, 69621, turn0 + 1, rfl, rfl, .inl (by decide), _, _, rfl, rfl, _, 12345, rfl, rfl, _, 3, rfl, rfl, ⟨by decide, by decide, by omega⟩, _, 2147483647, rfl, rfl, (show (2147483647 : Int) ≠ 0 by decide), ?_⟩
        dsimp only
        rw [emix]
        obtain ⟨c1, c2⟩ := fmod_in (i := (mix + 104729 * (turn0 + 1)) ^ (5 : Int).toNat) (j := 2147483587) (by decide)
        obtain ⟨m1, m2⟩ := fmod_in (i := (((mix + 104729 * (turn0 + 1)) ^ (5 : Int).toNat).fmod 2147483587).fdiv 13) (j := size) z0
        refine ⟨_, rfl, _, rfl, 104729, turn0 + 1, rfl, rfl, .inl (by decide), _, _, rfl, rfl, _, 5, rfl, rfl, ⟨by decide, by decide, by omega⟩, _, 2147483587, rfl, rfl, (show (2147483587 : Int) ≠ 0 by decide), _, 13, rfl, rfl, ⟨by decide, by omega⟩, _, rfl, _, size, rfl, rfl, (by show size ≠ 0; omega), ?_⟩
        exact q _ _ m1 m2 kH4 dr4
  · have l0 : left ≠ 0 := fun z => c (decide_eq_true (by rw [z]))
    have lp : 0 < left := by omega
    obtain ⟨m1, m2⟩ := fmod_in (i := left) (j := size) z0
    obtain ⟨f1, f2⟩ := fdiv_in (i := left) (j := size) h4 z0
    refine ⟨_, rfl, D.d, .int left, rfl, dr_left ▸ DGet.k (k := kLeft) h1, left, 0, rfl, rfl, _, rfl, ?_⟩
    rw [decide_eq_true lp]
    refine iteT ⟨_, rfl, D.d, _, rfl, dr_left ▸ DGet.k (k := kLeft) h1, _, rfl, left, size, rfl, rfl, (by show size ≠ 0; omega), ?_⟩
    refine ⟨_, rfl, D.d, _, rfl, dr_left ▸ DGet.k (k := kLeft) h1, _, rfl, left, size, rfl, rfl, ⟨(by omega), (by omega)⟩, _, rfl, D.d, _, rfl, DPut.k (k := kLeft) h1 (by show 4 < sizeLine; decide), ?_⟩
    rw [dr_putLeft]
    exact ⟨_, rfl, q _ _ m1 m2 (k1.trans (Kp.put hd')) ⟨ne, large, items0, _, turn0, upd_same, by rw [upd_ne (Ne.symm nd1)]; exact h2, by rw [upd_ne (Ne.symm nd2)]; exact h3, ⟨f1, g5, by omega⟩, h7, g8⟩⟩
end
end NV
/-! StoreF -/
set_option Elab.async false
set_option linter.all false
set_option maxRecDepth 100000
set_option maxHeartbeats 1000000
/-! a store is made; store_of; a store that is filled while its budget falls -/
namespace NV
open PySem PySem.Spec PyProof.Rows L2
open C8 (pss_cut pe_gc)
abbrev sCheckCompact : Stmt := topS 53
theorem scCheckCompact : FnScope ["log", "budget"] ["log", "budget"] (defScope sCheckCompact) := ⟨rfl, rfl, rfl, by decide +kernel, rfl, by decide +kernel, by decide +kernel⟩
abbrev sStoreOf : Stmt := topS 65
theorem scStoreOf : FnScope ["log", "budget", "store"] ["log", "budget"] (defScope sStoreOf) := ⟨rfl, rfl, rfl, by decide +kernel, rfl, by decide +kernel, by decide +kernel⟩
abbrev sLawFilled : Stmt := topS 77
theorem scLawFilled : FnScope ["draw", "store", "entries", "goal", "deleted", "entry"] ["draw", "store", "entries", "goal"] (defScope sLawFilled) := ⟨rfl, rfl, rfl, by decide +kernel, rfl, by decide +kernel, by decide +kernel⟩
/-! ### what a filled store holds and has given back -/
theorem lost_perm {B : Int} {es : List Ent} (nd : (es.map Ent.id).Nodup) : (lostS B es ++ (keptB B es).map Ent.id).Perm (es.map Ent.id) := by
  have sub := (keptB_sub B es).map Ent.id
  have n1 : (lostS B es).Nodup := nd.sublist (List.filter_sublist.map _)
  have n2 : ((keptB B es).map Ent.id).Nodup := nd.sublist sub
  have dis : ∀ z ∈ lostS B es, z ∉ (keptB B es).map Ent.id := fun z hz => by
    obtain ⟨e, he, rfl⟩ := List.mem_map.mp hz
    exact of_decide_eq_true (List.mem_filter.mp he).2
  rw [List.perm_ext_iff_of_nodup (List.nodup_append.mpr ⟨n1, n2, fun a ha b hb z => dis a ha (z ▸ hb)⟩) nd]
  intro z
  rw [List.mem_append]
  constructor
  · rintro (h | h)
    · obtain ⟨e, he, rfl⟩ := List.mem_map.mp h
      exact List.mem_map_of_mem (List.mem_filter.mp he).1
    · exact sub.subset h
  · intro h
    by_cases hk : z ∈ (keptB B es).map Ent.id
    · exact .inr hk
    · obtain ⟨e, he, rfl⟩ := List.mem_map.mp h
      exact .inl (List.mem_map_of_mem (List.mem_filter.mpr ⟨he, decide_eq_true hk⟩))
structure FilI (g : Int) (es : List Ent) (j : Nat) (L : List Ent) (zs : List Str) : Prop where
  sub : L.Sublist (es.take j)
  kept : keptB g (L ++ es.drop j) = keptB g es
  perm : (zs ++ L.map Ent.id).Perm ((es.take j).map Ent.id)
section
variable {g B : Int} {es L : List Ent} {j : Nat} {zs : List Str} {e : Ent}
theorem FilI.zero : FilI g es 0 [] [] := ⟨List.Sublist.refl _, rfl, List.Perm.refl _⟩
theorem FilI.all (h : FilI g es j L zs) : (L ++ es.drop j).Sublist es := by
  have := h.sub.append (List.Sublist.refl (es.drop j))
  rwa [List.take_append_drop] at this
theorem FilI.ok (h : FilI g es j L zs) (ok : LogOk es) : LogOk L := ok.sub (h.sub.trans (List.take_sublist _ _))
theorem FilI.len (h : FilI g es j L zs) : L.length ≤ j := Nat.le_trans h.sub.length_le (by rw [List.length_take]; omega)
theorem FilI.low (h : FilI g es j L zs) (hB : g ≤ B) (ok : LogOk es) : FilI g es j (keptB B L) (zs ++ lostS B L) := by
  refine ⟨(keptB_sub B L).trans h.sub, ?_, ?_⟩
  · rw [← h.kept]
    exact kept_parts hB [] L (es.drop j) fun e he => ok.ok e (h.all.subset he)
  · rw [List.append_assoc]
    exact ((lost_perm (h.ok ok).nd).append_left zs).trans h.perm
theorem FilI.next (h : FilI g es j L zs) (he : es[j]? = some e) : FilI g es (j + 1) (L ++ [e]) zs := by
  have ht : es.take (j + 1) = es.take j ++ [e] := by rw [List.take_add_one, he]; rfl
  have hd : es.drop j = e :: es.drop (j + 1) := by
    obtain ⟨hj, rfl⟩ := List.getElem?_eq_some_iff.mp he
    exact List.drop_eq_getElem_cons hj
  refine ⟨?_, ?_, ?_⟩
  · rw [ht]; exact h.sub.append (List.Sublist.refl _)
  · rw [← h.kept, hd, List.append_assoc]; rfl
  · rw [ht, List.map_append, List.map_append, ← List.append_assoc]
    exact h.perm.append_right _
end
theorem stTxt_of {K : PySem.W.Frag} {C : Addr} (h : clsB K C ["_log", "_budget", "_retracted", "_notes"] = true) : StTxt K C ∧ PySem.W.makesIn K C = true ∧ PySem.W.keepIn K (.ref C) = true := by
  obtain ⟨h1, h2, h3, h4⟩ := clsB_all h
  exact ⟨⟨h1, h4 _ (by simp), h4 _ (by simp), h4 _ (by simp), h4 _ (by simp)⟩, h2, h3⟩
/-- a new store -/
theorem make_store {C : Addr} {ex : List Addr} {H1 : Hp} {B : Int} {Q : Hp → Prop} {E : XK} {x dx : Addr} (nx : H1 x = none) (ndx : H1 dx = none) (B0 : 0 ≤ B) (B9 : B ≤ 999) (lv : Live ex H1) (q : ∀ H', Kp [] H1 H' → StAt C (x :: ex) H' x [] B [] → Live (x :: ex) H' → Q H') :
    spStInit C (.ref x :: ([V.int B] ++ [])) (upd (upd H1 dx (.own x)) x (.ins C dx [])) (fun v H2 => v = .non ∧ Q H2) E := by
  have k0 : Kp [x] H1 (upd (upd H1 dx (.own x)) x (.ins C dx [])) := ((Kp.laid ndx).mono (ex := []) (by simp)).trans (Kp.put (by simp))
  have lv0 : Live (x :: ex) (upd (upd H1 dx (.own x)) x (.ins C dx [])) := fun b hb h0 => by
    by_cases z : b = x
    · rw [z, upd_same] at h0; cases h0
    · have hb := lv b ((List.mem_cons.mp hb).resolve_left z)
      cases hH : H1 b with
      | none => exact hb hH
      | some o => rw [k0 _ _ (by simpa using z) hH] at h0; cases h0
  refine ⟨x, B, x :: ex, rfl, ⟨dx, upd_same⟩, B0, B9, lv0, fun H' k s => ⟨rfl, ?_⟩⟩
  have k1 := k0.trans k
  refine q H' (Kp.drop k1 nx) s fun b hb h0 => ?_
  by_cases z : b = x
  · obtain ⟨_, _, _, _, _, h, _⟩ := s.ob
    rw [z, h] at h0; cases h0
  · cases hH : (upd (upd H1 dx (.own x)) x (.ins C dx [])) b with
    | none => exact lv0 b hb hH
    | some o => rw [k _ _ (by simpa using z) hH] at h0; cases h0
def spCheckComp : Sp := fun vs H Q _ => ∃ (v : V) (es : List Ent) (B : Int) (ex : List Addr), vs = [v, .int B] ∧ Rp ex H (logD es) v ∧ LogOk es ∧ es.length ≤ 60 ∧ Live ex H ∧ keptB B es = es ∧ ∀ H', Kp [] H H' → Q .non H'
def spStoreOf (C : Addr) : Sp := fun vs H Q _ => ∃ (v : V) (es : List Ent) (B : Int) (ex : List Addr), vs = [v, .int B] ∧ Rp ex H (logD es) v ∧ LogOk es ∧ es.length ≤ 60 ∧ 0 ≤ B ∧ B ≤ 999 ∧ Live ex H ∧ keptB B es = es ∧
  ∀ p H', H p = none → Kp [] H H' → StAt C (p :: ex) H' p es B [] → Live (p :: ex) H' → Q (.ref p) H'
def spFilled (C : Addr) : Sp := fun vs H Q _ => ∃ (D : Dr) (n : Nat) (p : Addr) (v : V) (es : List Ent) (B g : Int) (ex : List Addr), vs = [.ref D.d, .ref p, v, .int g] ∧ Rp ex H (logD es) v ∧ LogOk es ∧ es.length ≤ 60 ∧ StAt C ex H p [] B [] ∧ p ∈ ex ∧ p ∉ D.all ∧ (∀ b ∈ D.ex, b ∈ ex) ∧ 0 ≤ g ∧ g ≤ B ∧ B ≤ 999 ∧ Live ex H ∧ DrAt D (n + 2 * es.length) H ∧
  ∀ (l : Addr) (H' : Hp) (zs : List Str), Kp (p :: D.ex) H H' → H l = none → H' l = some (.lst (zs.map V.str)) → StAt C ex H' p (keptB g es) g [] → (zs ++ (keptB g es).map Ent.id).Perm (es.map Ent.id) → DrAt D n H' → Q (.ref l) H'
section
variable {P : Program} {w : World} {K : PySem.W.Frag} {mg : Str → Option Value} {base : Heap} {CStore : Addr}
theorem ok_checkcomp (DCheckCompact : Fn K mg "check_compact" sCheckCompact ["log", "budget"]) (DKeptEntries : Fn K mg "kept_entries" sKeptEntries ["log", "budget"]) (GKeptEntries : FnOk P w K mg base CX0 5 DKeptEntries.f DKeptEntries.fd ["log", "budget"] spKept) :
    FnOk P w K mg base CX0 6 DCheckCompact.f DCheckCompact.fd ["log", "budget"] spCheckComp := by
  refine DCheckCompact.F.ok scCheckCompact (fun vs H Q E h => ?_) (fun cdv A outer s H vs Q E hr h => ?_)
  · obtain ⟨v, es, B, ex, rfl, _⟩ := h
    rfl
  obtain ⟨v, es, B, ex, rfl, rv, ok, h60, lv, hk, q⟩ := h
  refine ⟨_, pss_one (ps_if (pt_cmpR (neDE K hr.units) (pe_fn DKeptEntries GKeptEntries hr (pa_cons (pv 0) (pa_cons (pv 1) pa_nil))) (pv 0) (nomark _))
      (pss_dead _)
      pss_nil), ?_⟩
  refine ⟨_, rfl, _, rfl, v, es, ex, B, rfl, rv, ok, h60, lv, fun p H1 k1 r1 => ?_⟩
  rw [hk] at r1
  exact ⟨_, rfl, ne_logs ok.ok r1 (Rp.keep (k1.mono (by simp)) _ _ rv) ⟨_, rfl, iteF (q H1 k1)⟩⟩
theorem ok_storeof (DStoreOf : FnF K mg "store_of" sStoreOf) (DStoreInit : MtD K CStore "__init__" "Store.__init__" sStoreInit ["self", "budget"]) (MStore : MkS K mg "Store" CStore DStoreInit.f) (T : StTxt K CStore) (DCheckLog : Fn K mg "check_log" sCheckLog ["log"]) (DCheckBudget : Fn K mg "check_budget" sCheckBudget ["budget"]) (DCheckCompact : Fn K mg "check_compact" sCheckCompact ["log", "budget"])
    (GCheckLog : FnOk P w K mg base CX0 7 DCheckLog.f DCheckLog.fd ["log"] spCheck) (GCheckBudget : FnOk P w K mg base CX0 2 DCheckBudget.f DCheckBudget.fd ["budget"] spBudget) (GCheckCompact : FnOk P w K mg base CX0 6 DCheckCompact.f DCheckCompact.fd ["log", "budget"] spCheckComp) (GStoreInit : FnOk P w K mg base CX0 3 DStoreInit.f DStoreInit.fd ["self", "budget"] (spStInit CStore)) :
    FnOk P w K mg base CX0 8 DStoreOf.f DStoreOf.fd ["log", "budget"] (spStoreOf CStore) := by
  refine DStoreOf.F.ok scStoreOf (fun vs H Q E h => ?_) (fun cdv A outer s H vs Q E hr h => ?_)
  · obtain ⟨v, es, B, ex, rfl, _⟩ := h
    rfl
  obtain ⟨v, es, B, ex, rfl, rv, ok, h60, B0, B9, lv, hk, q⟩ := h
  have up : ∀ {Hx : Hp} {d : PyData} {u : V}, Kp [] H Hx → Rp ex H d u → Rp ex Hx d u := fun k r => Rp.keep (k.mono (by simp)) _ _ r
  refine ⟨_, pss_cons (ps_expr (pe_fn DCheckLog GCheckLog hr (pa_cons (pv 0) pa_nil)))
      (pss_cons (ps_expr (pe_fn DCheckBudget GCheckBudget hr (pa_cons (pv 1) pa_nil)))
      (pss_cons (ps_expr (pe_fn DCheckCompact GCheckCompact hr (pa_cons (pv 0) (pa_cons (pv 1) pa_nil))))
      (pss_cons (ps_set (i := 2) scStoreOf.nd rfl (.inl rfl) (pe_mkS MStore GStoreInit hr DStoreInit.b (pa_cons (pv 1) pa_nil)))
      (pss_cons (ps_fld (pv 2) (pv 0) rfl)
      (pss_one (ps_ret (pv 2))))))), ?_⟩
  refine ⟨_, rfl, v, es, ex, rfl, rv, ok, h60, fun H1 k1 => ?_⟩
  refine ⟨_, rfl, B, rfl, B0, B9, ?_⟩
  refine ⟨_, rfl, _, rfl, v, es, B, ex, rfl, up k1 rv, ok, h60, lv.kp0 k1, hk, fun H2 k2 => ?_⟩
  have k02 := k1.trans k2
  refine ⟨_, rfl, fun x dx nx ndx nex => make_store nx ndx B0 B9 (lv.kp0 k02) fun H3 k3 s3 l3 => ?_⟩
  have k03 := k02.trans k3
  obtain ⟨dx3, lv0, ra, na, ns, h1, h2, h3, h4, h5, h6⟩ := id s3.ob
  have nxH : H x = none := by
    cases h : H x with
    | none => rfl
    | some o => rw [k02 _ _ (by simp) h] at nx; cases nx
  refine ⟨_, rfl, _, rfl, x, CStore, dx3, _, rfl, h1, T.cl, T.nL, by show 4 < 1000; decide, ?_⟩
  rw [put_log]
  have k4 : Kp [x] H3 (upd H3 x (.ins CStore dx3 (stF v (.int B) (.ref ra) (.ref na)))) := Kp.put (by simp)
  refine ⟨_, rfl, ?_⟩
  have k04 := (k03.mono (ex' := [x]) (by simp)).trans k4
  refine q x _ nxH (Kp.drop k04 nxH) ⟨dx3, v, ra, na, ns, upd_same, ?_, k4 _ _ (fun z => h4 (List.mem_cons.mpr (.inl (List.mem_singleton.mp z)))) h3, h4, k4 _ _ (fun z => h6 (List.mem_cons.mpr (.inl (List.mem_singleton.mp z)))) h5, h6⟩ fun b hb h0 => ?_
  · exact Rp.keep (k4.mono (by simp)) _ _ (Rp.keep (k03.mono (by simp)) _ _ (Rp.apart nxH _ _ rv))
  · by_cases z : b = x
    · rw [z, upd_same] at h0; cases h0
    · cases hH : H3 b with
      | none => exact l3 b hb hH
      | some o => rw [k4 _ _ (by simpa using z) hH] at h0; cases h0
theorem ok_filled (DLawFilled : Fn K mg "_law_filled" sLawFilled ["draw", "store", "entries", "goal"]) (T : StTxt K CStore) (DStoreAdd : Mt K CStore "add" "Store.add" sStoreAdd ["self", "entry"]) (DStoreLowerBudget : Mt K CStore "lower_budget" "Store.lower_budget" sStoreLowerBudget ["self", "budget"]) (DStoreBudget : Mt K CStore "budget" "Store.budget" sStoreBudget ["self"]) (DLawTake : Fn K mg "_law_take" sLawTake ["draw", "size"])
    (GStoreAdd : FnOk P w K mg base CX0 7 DStoreAdd.f DStoreAdd.fd ["self", "entry"] (spStAdd CStore)) (GStoreLowerBudget : FnOk P w K mg base CX0 7 DStoreLowerBudget.f DStoreLowerBudget.fd ["self", "budget"] (spStLow CStore)) (GStoreBudget : FnOk P w K mg base CX0 1 DStoreBudget.f DStoreBudget.fd ["self"] (spStBud CStore)) (GLawTake : FnOk P w K mg base CX0 2 DLawTake.f DLawTake.fd ["draw", "size"] spTake) :
    FnOk P w K mg base CX0 8 DLawFilled.f DLawFilled.fd ["draw", "store", "entries", "goal"] (spFilled CStore) := by
  refine DLawFilled.F.ok scLawFilled (fun vs H Q E h => ?_) (fun cdv A outer s H vs Q E hr h => ?_)
  · obtain ⟨D, n, p, v, es, B, g, ex, rfl, _⟩ := h
    rfl
  obtain ⟨D, n, p, v, es, B, g, ex, rfl, rv, ok, h60, sa, hp, pD, dx, g0, hg, B9, lv, dr, q⟩ := h
  have line : (100000 : Nat) < sizeLine := by decide
  have cStore := T.cl
  refine ⟨_, pss_cons (ps_set (i := 4) scLawFilled.nd rfl (.inl rfl) (pe_lst pa_nil))
      (pss_cons (ps_for PassesOwn.never rfl (piTupE K (pv 2)) (pg_name (i := 5) scLawFilled.nd rfl (.inl rfl))
      (pss_cons (ps_set (i := 4) scLawFilled.nd rfl (.inl rfl) (pe_op op_cat (pv 4) (pe_mth (pv 1) cStore DStoreAdd GStoreAdd hr (pa_cons (pv 5) pa_nil))))
      (pss_one (ps_if (pt_cmpR op_eq (pe_fn DLawTake GLawTake hr (pa_cons (pv 0) (pa_cons pe_int pa_nil))) pe_int (nomark _))
      (pss_one (ps_set (i := 4) scLawFilled.nd rfl (.inl rfl) (pe_op op_cat (pv 4) (pe_mth (pv 1) cStore DStoreLowerBudget GStoreLowerBudget hr (pa_cons (pe_op op_add (pv 3) (pe_fn DLawTake GLawTake hr (pa_cons (pv 0) (pa_cons (pe_op op_add (pe_op op_sub (pe_mth0 (pv 1) cStore DStoreBudget GStoreBudget hr) (pv 3)) pe_int) pa_nil)))) pa_nil)))))
      pss_nil))))
      (pss_one (ps_ret (pe_op op_cat (pv 4) (pe_mth (pv 1) cStore DStoreLowerBudget GStoreLowerBudget hr (pa_cons (pv 3) pa_nil)))))), ?_⟩
  refine ⟨by show 0 ≤ sizeLine; omega, fun l nl => ?_⟩
  have sub : ∀ b ∈ p :: D.ex, b ∈ ex := fun b hb => (List.mem_cons.mp hb).elim (fun z => z ▸ hp) (dx b)
  have subp : ∀ b ∈ [p], b ∈ ex := fun b hb => by rw [List.mem_singleton.mp hb]; exact hp
  have off : ∀ {T : List Addr} {a : Addr}, (∀ b ∈ T, b ∈ ex) → a ∉ ex → a ∉ T := fun s n z => n (s _ z)
  have live : ∀ {H' : Hp} {L : List Ent} {B' : Int} {m : Nat}, Kp (p :: D.ex) H H' → StAt CStore ex H' p L B' [] → DrAt D m H' → Live ex H' := fun k s d b hb h0 => by
    by_cases z : b ∈ p :: D.ex
    · rcases List.mem_cons.mp z with e | e
      · obtain ⟨_, _, _, _, _, h, _⟩ := s.ob
        rw [e, h] at h0; cases h0
      · exact d.live b e h0
    · cases hH : H b with
      | none => exact lv b hb hH
      | some o => rw [k _ _ z hH] at h0; cases h0
  have old : ∀ {H' : Hp} {a : Addr} {T : List Addr}, Kp T H H' → a ∉ T → H' a = none → H a = none := fun {H' a T} k na n0 => by
    cases h : H a with
    | none => rfl
    | some o => rw [k _ _ na h] at n0; cases n0
  have kl : Kp [] H (upd H l (.lst [])) := Kp.laid nl
  obtain ⟨a, xs, rfl, na, ha, hx⟩ := id rv
  have hl : es.length = xs.length := len_data hx
  have low : ∀ {H1 : Hp} {l1 : Addr} {L : List Ent} {zs : List Str} {B1 B2 : Int} {j m : Nat} {Q2 : VK}, Kp (p :: D.ex) H H1 → H l1 = none → H1 l1 = some (.lst (zs.map V.str)) → StAt CStore ex H1 p L B1 [] → FilI g es j L zs → DrAt D m H1 → g ≤ B2 → B2 ≤ B1 → B1 ≤ 999 → j ≤ es.length →
      (∀ l2 H2, Kp (p :: D.ex) H H2 → H l2 = none → H2 l2 = some (.lst ((zs ++ lostS B2 L).map V.str)) → StAt CStore ex H2 p (keptB B2 L) B2 [] → FilI g es j (keptB B2 L) (zs ++ lostS B2 L) → DrAt D m H2 → Q2 (.ref l2) H2) →
      spStLow CStore [.ref p, .int B2] H1 (fun u H2 => rCat (.ref l1) u H2 Q2) E := fun {H1 l1 L zs B1 B2 j m Q2} k n1 e1 s1 f1 d1 hg2 h21 h19 hj q2 => by
    refine ⟨p, L, B1, B2, [], ex, rfl, s1, hp, f1.ok ok, by have := f1.len; omega, by omega, h21, h19, live k s1 d1, fun d H2 k2 n2 e2 s2 => ?_⟩
    have e12 := k2 _ _ (off subp (lv.fresh n1)) e1
    refine ⟨l1, d, _, _, rfl, rfl, e12, e2, ?_, fun l3 n3 => ?_⟩
    · rw [List.length_map, List.length_map]
      have a1 := (f1.low (B := B2) hg2 ok).perm.length_eq
      rw [List.length_append, List.length_append, List.length_map, List.length_map, List.length_take] at a1
      omega
    · have k3 : Kp [] H2 (upd H2 l3 (.lst ((zs.map V.str) ++ ((lostS B2 L).map V.str)))) := Kp.laid n3
      have kk := (k.trans (k2.mono (ex' := p :: D.ex) (by simp))).trans (k3.mono (by simp))
      refine q2 l3 _ kk (old (k.trans (k2.mono (ex' := p :: D.ex) (by simp))) (fun z => live (k.trans (k2.mono (ex' := p :: D.ex) (by simp))) s2 (d1.off2 k2 (by simpa using pD)) _ (sub _ z) n3) n3) ?_ (s2.keep k3 (by simp) (by simp)) (f1.low hg2 ok) ((d1.off2 k2 (by simpa using pD)).keep k3)
      rw [upd_same, List.map_append]
  refine ⟨_, rfl, a, rfl, ⟨_, .inl (.inl (kl _ _ (by simp) ha))⟩, for_tup (K := K) (a := a) (xs := xs) (fun j σ H' => ∃ (l : Addr) (zs : List Str) (L : List Ent) (B' : Int) (v5 : Option V), σ = [some (.ref D.d), some (.ref p), some (.ref a), some (.int g), some (.ref l), v5] ∧ Kp (p :: D.ex) H H' ∧ H l = none ∧ H' l = some (.lst (zs.map V.str)) ∧ StAt CStore ex H' p L B' [] ∧ g ≤ B' ∧ B' ≤ 999 ∧ FilI g es j L zs ∧ DrAt D (n + 2 * (es.length - j)) H')
    ⟨l, [], [], B, none, rfl, kl.mono (by simp), nl, upd_same, sa.keep kl (by simp) (by simp), hg, B9, FilI.zero, dr.keep kl⟩ (fun j σ H' _ ⟨_, _, _, _, _, _, k, _⟩ => .inl (.inl (k _ _ (off sub na) ha))) ?_ ?_⟩
  · rintro j x σ H1 hxj ⟨l1, zs, L, B1, v5, rfl, k1, n1, e1, s1, hg1, h19, f1, d1⟩
    have hj := (List.getElem?_eq_some_iff.mp hxj).1
    obtain ⟨ee, hee⟩ : ∃ ee, es[j]? = some ee := ⟨_, List.getElem?_eq_getElem (by omega)⟩
    obtain ⟨x', hx', rx⟩ := ent_at (RpAll.keep (k1.mono sub) _ _ hx) hee
    rw [hxj] at hx'
    obtain rfl := Option.some.inj hx'
    have f2 := f1.next hee
    obtain ⟨dx1, lv1, ra1, na1, ns1, h1, _⟩ := id s1.ob
    refine ⟨_, rfl, _, rfl, p, dx1, _, rfl, h1, rfl, _, rfl, ?_⟩
    refine ⟨p, x, L, ee, B1, [], ex, rfl, s1, hp, rx, f2.ok ok, by have := f1.len; omega, (fun z => by cases z), by show 0 ≤ 1000; omega, live k1 s1 d1, fun d H2 k2 n2 e2 s2 => ?_⟩
    have d2 := d1.off2 k2 (by simpa using pD)
    have k12 := k1.trans (k2.mono (ex' := p :: D.ex) (by simp))
    have f3 := f2.low (B := B1) hg1 ok
    refine ⟨l1, d, _, _, rfl, rfl, k2 _ _ (off subp (lv.fresh n1)) e1, e2, ?_, fun l3 n3 => ?_⟩
    · rw [List.length_map, List.length_map]
      have a1 := f3.perm.length_eq
      rw [List.length_append, List.length_append, List.length_map, List.length_map, List.length_take] at a1
      omega
    have k3 : Kp [] H2 (upd H2 l3 (.lst ((zs.map V.str) ++ ((lostS B1 (L ++ [ee])).map V.str)))) := Kp.laid n3
    have nl3 : H l3 = none := old k12 (fun z => live k12 s2 d2 _ (sub _ z) n3) n3
    have e3 : (upd H2 l3 (.lst ((zs.map V.str) ++ ((lostS B1 (L ++ [ee])).map V.str)))) l3 = some (.lst ((zs ++ lostS B1 (L ++ [ee])).map V.str)) := by rw [upd_same, List.map_append]
    have s3 := s2.keep k3 (by simp) (by simp)
    have d3 := d2.keep k3
    have k13 := k12.trans (k3.mono (by simp))
    obtain ⟨H3, eH3⟩ : ∃ H3, upd H2 l3 (.lst ((zs.map V.str) ++ ((lostS B1 (L ++ [ee])).map V.str))) = H3 := ⟨_, rfl⟩
    rw [eH3] at k13 e3 s3 d3 ⊢
    refine ⟨_, rfl, D, n + 2 * (es.length - (j + 1)) + 1, 4, rfl, by decide, by decide, d3.less (by omega), fun i H4 i0 i4 k4 d4 => ?_⟩
    have s4 := s3.keep k4 (Dr.sub pD) dx
    have k14 := k13.trans (k4.mono (ex' := p :: D.ex) fun b hb => List.mem_cons_of_mem _ hb)
    have e4 := k4 _ _ (off dx (lv.fresh nl3)) e3
    refine ⟨rfl, _, rfl, ?_⟩
    cases hi : (decide (V.int i = V.int 0)) with
    | false => exact iteF ⟨l3, _, _, B1, _, rfl, k14, nl3, e4, s4, hg1, h19, f3, d4.less (by omega)⟩
    | true =>
      refine iteT ?_
      obtain ⟨dx4, lv4, ra4, na4, ns4, h4, _⟩ := id s4.ob
      refine ⟨_, rfl, _, rfl, p, dx4, _, rfl, h4, rfl, _, rfl, _, rfl, _, rfl, p, dx4, _, rfl, h4, rfl, p, _, B1, [], ex, rfl, s4, ?_⟩
      refine ⟨_, rfl, B1, g, rfl, rfl, B1 - g, 1, rfl, rfl, D, n + 2 * (es.length - (j + 1)), B1 - g + 1, rfl, by omega, by omega, d4, fun i5 H5 i50 i51 k5 d5 => ?_⟩
      have s5 := s4.keep k5 (Dr.sub pD) dx
      have k15 := k14.trans (k5.mono (ex' := p :: D.ex) fun b hb => List.mem_cons_of_mem _ hb)
      have e5 := k5 _ _ (off dx (lv.fresh nl3)) e4
      refine ⟨g, i5, rfl, rfl, ?_⟩
      refine low k15 nl3 e5 s5 f3 d5 (by omega) (by omega) h19 (by omega) fun l6 H6 k6 n6 e6 s6 f6 d6 => ?_
      exact ⟨l6, _, _, _, _, rfl, k6, n6, e6, s6, by omega, by omega, f6, d6.less (by omega)⟩
  · rintro σ H1 ⟨l1, zs, L, B1, v5, rfl, k1, n1, e1, s1, hg1, h19, f1, d1⟩
    obtain ⟨dx1, lv1, ra1, na1, ns1, h1, _⟩ := id s1.ob
    refine ⟨_, rfl, _, rfl, p, dx1, _, rfl, h1, rfl, _, rfl, ?_⟩
    rw [← hl] at f1 d1
    refine low k1 n1 e1 s1 f1 d1 (Int.le_refl g) hg1 h19 (Nat.le_refl _) fun l2 H2 k2 n2 e2 s2 f2 d2 => ?_
    have ek : keptB g L = keptB g es := by have := f1.kept; rwa [List.drop_length, List.append_nil] at this
    rw [ek] at s2 f2
    have pp := f2.perm
    rw [List.take_length] at pp
    exact q l2 H2 _ k2 n2 e2 s2 pp (d2.less (by omega))
end
end NV
/-! T1 -/
set_option Elab.async false
set_option linter.all false
set_option maxRecDepth 100000
set_option maxHeartbeats 600000
/-! what a target depends on: backwards through the log, and by the last writers -/
namespace NV
open PySem PySem.Spec PyProof.Rows L2
abbrev Row := Str × Str × Option Str
/-! ### backwards, as the package does -/
def openIn (e : Ent) (r : Row) : Bool := r.2.2.isNone && decide (r.2.1 ∈ e.ws)
def closeR (e : Ent) (r : Row) : Row := if openIn e r then (r.1, r.2.1, some e.id) else r
def stepT (e : Ent) (rows : List Row) : List Row := if rows.any (openIn e) then rows.map (closeR e) ++ e.rs.map (fun c => (e.id, c, none)) else rows
/-! ### by the last writers -/
def wr (es : List Ent) (n : Nat) (c : Str) : Bool := match es[n]? with
  | some e => decide (c ∈ e.ws)
  | none => false
/-- the last before n that writes the cell -/
def lastIx (es : List Ent) : Nat → Str → Option Nat
  | 0, _ => none
  | n + 1, c => if wr es n c then some n else lastIx es n c
theorem lastIx_lt {es : List Ent} {c : Str} : ∀ {n j : Nat}, lastIx es n c = some j → j < n ∧ wr es j c = true
  | n + 1, j, h => by
    unfold lastIx at h
    cases hw : wr es n c with
    | true =>
      rw [hw, if_pos rfl] at h
      obtain rfl := Option.some.inj h
      exact ⟨Nat.lt_succ_self _, hw⟩
    | false =>
      rw [hw, if_neg Bool.false_ne_true] at h
      obtain ⟨h1, h2⟩ := lastIx_lt h
      exact ⟨by omega, h2⟩
theorem lastIx_ge {es : List Ent} {c : Str} {p : Nat} (hw : wr es p c = true) : ∀ {n : Nat}, p < n → ∃ j, lastIx es n c = some j ∧ p ≤ j
  | n + 1, h => by
    unfold lastIx
    cases hn : wr es n c with
    | true => exact ⟨n, by rw [if_pos rfl], by omega⟩
    | false =>
      rw [if_neg Bool.false_ne_true]
      have : p ≠ n := fun z => by rw [z, hn] at hw; cases hw
      exact lastIx_ge hw (by omega)
def nameAt (es : List Ent) (j : Nat) : Str := match es[j]? with
  | some e => e.id
  | none => ""
/-- a source that is found from p on -/
def shown (es : List Ent) (p : Nat) : Option Nat → Option Str
  | some j => if p ≤ j then some (nameAt es j) else none
  | none => none
theorem shown_yes {es : List Ent} {p j : Nat} (h : p ≤ j) : shown es p (some j) = some (nameAt es j) := if_pos h
theorem shown_no {es : List Ent} {p j : Nat} (h : ¬ p ≤ j) : shown es p (some j) = none := if_neg h
/-- a row told by place: who reads, what, from which position -/
abbrev Ask := Str × Str × Nat
def rowA (es : List Ent) (p : Nat) (q : Ask) : Row := (q.1, q.2.1, shown es p (lastIx es q.2.2 q.2.1))
def asksAt (es : List Ent) (i : Nat) : List Ask := match es[i]? with
  | some e => e.rs.map fun c => (e.id, c, i)
  | none => []
def hits (es : List Ent) (p : Nat) (qs : List Ask) : Bool := qs.any fun q => decide (lastIx es q.2.2 q.2.1 = some p)
/-- what is asked when all from p on is read -/
def asks (es : List Ent) (q : Ask) : Nat → List Ask
  | 0 => [q]
  | n + 1 => if hits es (q.2.2 - (n + 1)) (asks es q n) then asks es q n ++ asksAt es (q.2.2 - (n + 1)) else asks es q n
def backN (es : List Ent) (k : Nat) (row : Row) : Nat → List Row
  | 0 => [row]
  | n + 1 => match es[k - (n + 1)]? with
    | some e => stepT e (backN es k row n)
    | none => backN es k row n
theorem asks_pos {es : List Ent} {q : Ask} : ∀ {n : Nat}, n ≤ q.2.2 → ∀ r ∈ asks es q n, q.2.2 - n ≤ r.2.2
  | 0, _, r, h => by
    rw [List.mem_singleton.mp h]
    omega
  | n + 1, hn, r, h => by
    unfold asks at h
    by_cases hh : hits es (q.2.2 - (n + 1)) (asks es q n) = true
    · rw [if_pos hh] at h
      rcases List.mem_append.mp h with z | z
      · have := asks_pos (n := n) (by omega) r z
        omega
      · unfold asksAt at z
        cases he : es[q.2.2 - (n + 1)]? with
        | none => rw [he] at z; cases z
        | some e =>
          rw [he] at z
          obtain ⟨c, _, rfl⟩ := List.mem_map.mp z
          exact Nat.le_refl _
    · rw [if_neg hh] at h
      have := asks_pos (n := n) (by omega) r h
      omega
/-- one row, one entry further back -/
theorem open_iff {es : List Ent} {p : Nat} {e : Ent} {q : Ask} (he : es[p]? = some e) (hq : p < q.2.2) : openIn e (rowA es (p + 1) q) = decide (lastIx es q.2.2 q.2.1 = some p) := by
  have hw : wr es p q.2.1 = decide (q.2.1 ∈ e.ws) := by
    unfold wr
    rw [he]
  unfold openIn rowA
  dsimp only
  cases hl : lastIx es q.2.2 q.2.1 with
  | none =>
    have : decide (q.2.1 ∈ e.ws) = false := by
      rw [← hw]
      cases h : wr es p q.2.1 with
      | false => rfl
      | true =>
        obtain ⟨j, hj, _⟩ := lastIx_ge h hq
        rw [hl] at hj; cases hj
    rw [this, Bool.and_false]
    rfl
  | some j =>
    obtain ⟨_, hj⟩ := lastIx_lt hl
    by_cases h : p + 1 ≤ j
    · rw [shown_yes h]
      have : ¬ (some j = some p) := fun z => by have := Option.some.inj z; omega
      rw [decide_eq_false this]
      rfl
    · rw [shown_no h]
      by_cases hjp : j = p
      · subst hjp
        rw [← hw, hj, decide_eq_true (rfl : some j = some j)]
        rfl
      · have : decide (q.2.1 ∈ e.ws) = false := by
          rw [← hw]
          cases hx : wr es p q.2.1 with
          | false => rfl
          | true =>
            obtain ⟨j', hj', le⟩ := lastIx_ge hx hq
            rw [hl] at hj'
            have := Option.some.inj hj'
            omega
        rw [this, Bool.and_false, decide_eq_false (fun z => hjp (Option.some.inj z))]
theorem close_row {es : List Ent} {p : Nat} {e : Ent} {q : Ask} (he : es[p]? = some e) (hq : p < q.2.2) : closeR e (rowA es (p + 1) q) = rowA es p q := by
  unfold closeR
  rw [open_iff he hq]
  unfold rowA
  cases hl : lastIx es q.2.2 q.2.1 with
  | none => rw [decide_eq_false (by simp), if_neg Bool.false_ne_true]; rfl
  | some j =>
    by_cases hj : j = p
    · subst hj
      rw [decide_eq_true rfl, if_pos rfl]
      rw [shown_yes (Nat.le_refl _)]
      unfold nameAt
      rw [he]
    · rw [decide_eq_false (fun z => hj (Option.some.inj z)), if_neg Bool.false_ne_true]
      by_cases h : p + 1 ≤ j
      · rw [shown_yes h, shown_yes (by omega)]
      · rw [shown_no h, shown_no (by omega)]
/-- the package's rows are those of the last writers -/
theorem back_asks {es : List Ent} {q : Ask} (hk : q.2.2 ≤ es.length) : ∀ n, n ≤ q.2.2 → backN es q.2.2 (q.1, q.2.1, none) n = (asks es q n).map (rowA es (q.2.2 - n))
  | 0, _ => by
    show [(q.1, q.2.1, none)] = [rowA es (q.2.2 - 0) q]
    unfold rowA
    cases hl : lastIx es q.2.2 q.2.1 with
    | none => rfl
    | some j =>
      have := (lastIx_lt hl).1
      rw [shown_no (by omega)]
  | n + 1, hn => by
    have ih := back_asks hk n (by omega)
    obtain ⟨e, he⟩ : ∃ e, es[q.2.2 - (n + 1)]? = some e := ⟨_, List.getElem?_eq_getElem (by omega)⟩
    have hp : q.2.2 - n = q.2.2 - (n + 1) + 1 := by omega
    have pos : ∀ r ∈ asks es q n, q.2.2 - (n + 1) < r.2.2 := fun r hr => by
      have := asks_pos (n := n) (by omega) r hr
      omega
    show (match es[q.2.2 - (n + 1)]? with | some e => stepT e (backN es q.2.2 (q.1, q.2.1, none) n) | none => backN es q.2.2 (q.1, q.2.1, none) n) = _
    rw [he]
    dsimp only
    rw [ih, hp]
    have hany : ((asks es q n).map (rowA es (q.2.2 - (n + 1) + 1))).any (openIn e) = hits es (q.2.2 - (n + 1)) (asks es q n) := by
      unfold hits
      rw [List.any_map]
      apply Bool.eq_iff_iff.mpr
      rw [List.any_eq_true, List.any_eq_true]
      constructor
      · rintro ⟨r, hr, h⟩
        exact ⟨r, hr, by rw [← open_iff he (pos r hr)]; exact h⟩
      · rintro ⟨r, hr, h⟩
        exact ⟨r, hr, by show openIn e (rowA es _ r) = true; rw [open_iff he (pos r hr)]; exact h⟩
    have hmap : ((asks es q n).map (rowA es (q.2.2 - (n + 1) + 1))).map (closeR e) = (asks es q n).map (rowA es (q.2.2 - (n + 1))) := by
      rw [List.map_map]
      exact List.map_congr_left fun r hr => close_row he (pos r hr)
    unfold stepT
    rw [hany]
    show _ = (if hits es (q.2.2 - (n + 1)) (asks es q n) then asks es q n ++ asksAt es (q.2.2 - (n + 1)) else asks es q n).map (rowA es (q.2.2 - (n + 1)))
    by_cases hh : hits es (q.2.2 - (n + 1)) (asks es q n) = true
    · rw [if_pos hh, if_pos hh, List.map_append, hmap]
      congr 1
      unfold asksAt
      rw [he]
      dsimp only
      rw [List.map_map]
      refine List.map_congr_left fun c _ => ?_
      show ((e.id, c, none) : Row) = (e.id, c, shown es (q.2.2 - (n + 1)) (lastIx es (q.2.2 - (n + 1)) c))
      cases hl : lastIx es (q.2.2 - (n + 1)) c with
      | none => rfl
      | some j =>
        have := (lastIx_lt hl).1
        rw [shown_no (by omega)]
    · rw [if_neg hh, if_neg hh]
      refine List.map_congr_left fun r hr => ?_
      rw [← close_row he (pos r hr)]
      have no : openIn e (rowA es (q.2.2 - (n + 1) + 1) r) = false := by
        rw [open_iff he (pos r hr)]
        cases hd : decide (lastIx es r.2.2 r.2.1 = some (q.2.2 - (n + 1))) with
        | false => rfl
        | true => exact absurd (List.any_eq_true.mpr ⟨r, hr, hd⟩) hh
      unfold closeR
      rw [no, if_neg Bool.false_ne_true]
end NV
/-! EnumT -/
set_option Elab.async false
set_option linter.all false
set_option maxRecDepth 100000
set_option maxHeartbeats 600000
/-! enumerate of a tuple -/
namespace NV
open PySem PySem.Spec PyProof.Rows
open L2
def ItnM (K : PySem.W.Frag) (a : Addr) : It where
  go := fun i H => ∃ xs, SqT K H a xs ∧ i < xs.length
  yld := fun i H v H' => ∃ T x, H T = none ∧ v = .ref T ∧ H' = upd H T (.tup [.int (i : Nat), x]) ∧ ∀ xs, SqT K H a xs → xs[i]? = some x
  stop := fun i H => ∃ xs, SqT K H a xs ∧ xs.length = i
/-- the two cells of such an enumerate after i turns -/
structure EM (a e it : Addr) (i : Nat) (h : Heap) : Prop where
  num : ∃ old, IsEnum h e it (i : Nat) old
  src : h.IsTupleIter it a i
  ne : e ≠ it
section
variable {a e it : Addr} {i : Nat} {h h' : Heap}
theorem EM.cell (m : EM a e it i h) {c : Addr} (hc : c ∈ [e, it]) : ∃ o, h.get? c = some o ∧ ∀ v, o.data ≠ .cell v := by
  obtain ⟨old, hn⟩ := m.num
  obtain ⟨f, hf, _, df⟩ := m.src
  simp only [List.mem_cons, List.not_mem_nil, or_false] at hc
  rcases hc with z | z <;> subst z
  · exact ⟨_, hn, nofun⟩
  · exact ⟨f, hf, fun v y => nomatch df.symm.trans y⟩
theorem EM.frame (m : EM a e it i h) (k : ∀ c ∈ [e, it], ∀ o, h.get? c = some o → h'.get? c = some o) : EM a e it i h' where
  num := m.num.imp fun old hn => k e (by simp) _ hn
  src := m.src.at (k it (by simp))
  ne := m.ne
theorem EM.apart (m : EM a e it i h) {u : Array Value} (ht : h.IsTuple a u) : a ≠ it ∧ e ∉ [it, a] := by
  obtain ⟨old, hn⟩ := m.num
  obtain ⟨f, hf, _, df⟩ := m.src
  obtain ⟨t, h1, _, _, d1⟩ := ht
  refine ⟨?_, fun hm => ?_⟩
  · rintro rfl
    obtain rfl : f = t := Option.some.inj (hf.symm.trans h1)
    exact nomatch df.symm.trans d1
  · simp only [List.mem_cons, List.not_mem_nil, or_false] at hm
    rcases hm with z | z
    · exact m.ne z
    · subst z
      have := Option.some.inj (hn.symm.trans h1)
      rw [← this] at d1
      cases d1
end
section
variable {P : Program} {w : World} {K : PySem.W.Frag} {elts : List Expr} {kk : Nat} {tpos : Pos} {a e it : Addr}
theorem turn_enumT : Turn P w K (.Tuple elts kk tpos) (ItnM K a) [e, it] e (EM a e it) := by
  constructor
  · exact List.mem_cons_self
  · exact fun i h m c hc => m.cell hc
  · exact fun i h h' m k => m.frame k
  · rintro X rfl rfl rfl calm i pins s σ H E I free m ⟨xs, tup, l1⟩
    obtain ⟨us, ru, t1, _⟩ := I.tuple tup
    obtain ⟨x, hx⟩ : ∃ x, xs[i]? = some x := ⟨_, List.getElem?_eq_getElem l1⟩
    obtain ⟨u, hu, rxu⟩ := ru.get hx
    obtain ⟨n1, n2⟩ := m.apart t1
    obtain ⟨old, hn⟩ := m.num
    have still : X.A.in1.handled = none := I.ok.hd calm
    refine wpAny_pyNext_enum_itemD (.tuple still it a n1 us.toArray) hn ⟨m.src, t1⟩ ?_ m.ne n2 fun u' h1 tk eu out st pair _ hk => ?_
    · have := ru.length
      simp
      omega
    have eu : us.toArray[i]? = some u' := eu
    rw [List.getElem?_toArray, hu] at eu
    obtain rfl := Option.some.inj eu
    refine ⟨_, rfl, wpAny_letOwnedTupleGo_enum (s := { s with heap := h1, toks := tk + 1 }) out fun h2 e2 same => ?_⟩
    have lt : ∀ c ∈ [e, it], c < s.heap.objs.size := fun c hc => by
      obtain ⟨o, ho, _⟩ := m.cell hc
      exact Heap.lt_size ho
    have enew : s.heap.objs.size ≠ e := (Nat.ne_of_lt (lt e List.mem_cons_self)).symm
    have rest : ∀ c o, c ∉ [e, it] → s.heap.get? c = some o → h2.get? c = some o := fun c o hc y => by
      simp only [List.mem_cons, List.not_mem_nil, or_false, not_or] at hc
      exact (same.2 c hc.1).trans (hk c o hc.1 hc.2 y)
    have I2 := I.turnedNew (t' := tk + 1) (h' := h2) (ob := .tup [.int (i : Nat), x]) rest free (Nat.le_refl s.heap.objs.size)
      ⟨by show 2 ≤ sizeLine; decide, [.int (i : Nat) tk, u], .cons ⟨tk, rfl⟩ (.cons rxu .nil), ⟨_, (same.2 _ enew).trans pair, rfl, _, rfl⟩⟩
    refine ⟨.ref s.heap.objs.size, _, I2, rfl, ⟨s.heap.objs.size, x, I.hok.fresh (Nat.le_refl _), rfl, rfl, fun xs' hx' => ?_⟩, ?_, fun c hc => ?_⟩
    · rw [I.tuple_inj hx' tup]
      exact hx
    · exact { num := ⟨u, e2⟩
              src := st.1.at fun o y => (same.2 it m.ne.symm).trans y
              ne := m.ne }
    · rw [upd_ne (Nat.ne_of_lt (lt c hc))]
      exact (free c hc).1
  · rintro X rfl rfl rfl calm i pins s σ H E I free m ⟨xs, tup, l1⟩
    obtain ⟨us, ru, t1, _⟩ := I.tuple tup
    obtain ⟨n1, n2⟩ := m.apart t1
    obtain ⟨old, hn⟩ := m.num
    have still : X.A.in1.handled = none := I.ok.hd calm
    have e1 : i = us.toArray.size := by
      have := ru.length
      simp
      omega
    refine wpAny_pyNext_enum_endD (.tuple still it a n1 us.toArray) hn (by rw [← e1]; exact ⟨m.src, t1⟩) fun h1 ext => ⟨rfl, I.turnedL (t' := s.toks) (fun c o hc y => ext c o (fun z => hc (by rw [z]; simp)) y) free⟩
  · exact fun A i s Q E m q => by
      obtain ⟨old, hn⟩ := m.num
      exact wpAny_pyIter_enum hn q
end
/-- enumerate(v), v of any kind that begins -/
theorem meets_enum1 {v : Value} {o : Obj} {W : Heap → Prop} (B : Begins v o W) :
    Meets (Builtin.«enumerate.__new__» ⟨[.type "enumerate", v], []⟩) (fun _ R s => W s.heap ∧ R (.ok (.ret (.ref (s.heap.push o).objs.size))) { s with heap := (s.heap.push o).push { cls := .type "enumerate", data := .fields #[.none, .bool false, .ref s.heap.objs.size, rawInt 0, .none, .none] } }) :=
  .of_wp fun prog w A R s h => by
    obtain ⟨hp, g, d, tk, os⟩ := s
    obtain ⟨h1, h⟩ := h
    have hsub := sub_enumerate
    have begin_ : ∀ {A' : Around} {E : Value → Shared → Prop} {Q : Value → Shared → Prop}, Q (.ref hp.objs.size) ⟨hp.push o, g, d, tk, os⟩ → wpAny (model prog w) A' (pyIter v) Q E ⟨hp, g, d, tk, os⟩ := fun q => B.iter prog w _ _ _ _ h1 q
    wp_walk using begin_
    refine wpAny_stack_any fun st => wpAny_pure ?_
    split
    · rename_i c _ _ _ _ _
      cases (c == Value.type "enumerate") <;> (wp_walk using begin_; exact ⟨_, rfl, h⟩)
    · wp_walk using begin_
      exact ⟨_, rfl, h⟩
section
variable {prog : Program} {w : World} {A : Around} {E : Value → Shared → Prop} {s : Shared}
theorem enum_begins1 {v : Value} {o : Obj} {W : Heap → Prop} {Q : Value → Shared → Prop} (B : Begins v o W) (h1 : W s.heap)
    (h : ∀ h', IsEnum h' (s.heap.objs.size + 1) s.heap.objs.size 0 .none → h'.get? s.heap.objs.size = some o → (∀ b y, s.heap.get? b = some y → h'.get? b = some y) → Q (.ref (s.heap.objs.size + 1)) { s with heap := h' }) :
    wpAny (model prog w) A (call (.type "enumerate") [v]) Q E s := by
  refine callType_new F.called_enumerate (by decide) (F.typeCall_enumerate_1 _) (F.newCall_enumerate_1 _) (fun obj => F.args_object_init_2 obj _) F.entry_enumerate_new (meets_enum1 B) ⟨h1, ?_⟩
  have size : (s.heap.push o).objs.size = s.heap.objs.size + 1 := Heap.size_push ..
  have made := Heap.get?_push_size (s.heap.push o) (o := { cls := .type "enumerate", data := .fields #[.none, .bool false, .ref s.heap.objs.size, rawInt 0, .none, .none] }) rfl
  rw [size] at made
  show _ ∧ _
  rw [size]
  exact ⟨⟨_, made, rfl⟩, h _ made (Heap.get?_push_of_some _ (Heap.get?_push_size _ B.free)) fun b y e => Heap.get?_push_of_some _ (Heap.get?_push_of_some _ e)⟩
end
def iEnumT (K : PySem.W.Frag) (ta : TA) : TI := fun σ H R => ta σ H fun vs H1 => ∃ a xs, vs = [.ref a] ∧ SqT K H1 a xs ∧ R (ItnM K a) H1
theorem pi_enumT {X : Cx} {e : Expr} {ta : TA} {p pos tpos : Pos} {elts : List Expr} {kk : Nat} (K : PySem.W.Frag) (hg : Gl X "enumerate") (hm : X.mg "enumerate" = none) (ha : PA X [e] ta) (hK : X.K = K := by rfl)
    (h1 : starEach [e] X.env = (false, eval e X.env) :: starEach [] X.env := by rfl) (h2 : (backTo pos (starEach [] X.env)).any (·.1) = false := by rfl) :
    PI X (.Tuple elts kk tpos) (.Call (.Name "enumerate" p) [e] [] pos) (iEnumT K ta) := by
  subst hK
  constructor
  intro pins s σ H R I h
  refine Call_ (ld_blt I hg hm boot_enumerate (callWith_type1 (thn (ha.run pos pins s σ H _ I h) ?_) h1 h2))
  rintro us s1 ⟨_, H1, J, rel, a, xs, rfl, tup, q⟩
  cases rel with
  | cons ra rest =>
    cases rest
    cases ra
    obtain ⟨us, _, t1, _⟩ := J.tuple tup
    refine enum_begins1 (begins_tuple a us.toArray) t1 fun h' hn f hk => wpAny_pyIter_enum hn ?_
    refine ⟨s1.heap.objs.size + 1, _, _, _, H1, rfl, J.kept (t' := s1.toks) hk, turn_enumT, ⟨⟨_, hn⟩, ⟨_, f, rfl, rfl⟩, fun z => Nat.succ_ne_self _ z⟩, fun c hc => ?_, q⟩
    have le : (s1.heap.objs.size : Nat) ≤ (c : Nat) := by
      simp only [List.mem_cons, List.not_mem_nil, or_false] at hc
      rcases hc with z | z <;> rw [z]
      · exact Nat.le_add_right _ _
      · exact Nat.le_refl _
    exact J.fpOk le (J.hok.fresh le)
theorem for_enumT {K : PySem.W.Frag} {a : Addr} {xs : List V} {g : TG} {tb : TS} {D : Ends} {σ : L2.St} {H : Hp} (Pv : Nat → L2.St → Hp → Prop) (h0 : Pv 0 σ H) (hq : ∀ i σ H, Pv i σ H → SqT K H a xs)
    (turn : ∀ (i : Nat) (x : V) (T : Addr) (σ : L2.St) (H : Hp), xs[i]? = some x → Pv i σ H → H T = none → g (.ref T) σ (upd H T (.tup [.int (i : Nat), x])) fun σ2 H2 => tb { D with nx := Pv (i + 1), ct := Pv (i + 1), bk := D.nx } σ2 H2) (last : ∀ σ H, Pv xs.length σ H → D.nx σ H) :
    ∃ W : Nat → Nat → L2.St → Hp → Prop, (∃ m, W 0 m σ H) ∧ ∀ i m σ H, W i m σ H → ((ItnM K a).stop i H ∧ D.nx σ H) ∨
      ((ItnM K a).go i H ∧ ∃ N : L2.St → Hp → Prop, (∀ σ' H', N σ' H' → ∃ m', m' < m ∧ W (i + 1) m' σ' H') ∧ ∀ v H', (ItnM K a).yld i H v H' → g v σ H' fun σ2 H2 => tb { D with nx := N, ct := N, bk := D.nx } σ2 H2) := by
  refine ⟨fun i m σ H => m + i = xs.length ∧ Pv i σ H, ⟨xs.length, rfl, h0⟩, ?_⟩
  rintro i m σ H ⟨hm, hP⟩
  have tup := hq i σ H hP
  cases m with
  | zero =>
    obtain rfl : i = xs.length := by omega
    exact .inl ⟨⟨xs, tup, rfl⟩, last σ H hP⟩
  | succ m =>
    refine .inr ⟨⟨xs, tup, by omega⟩, Pv (i + 1), fun σ' H' hP' => ⟨m, by omega, by omega, hP'⟩, ?_⟩
    rintro v H' ⟨T, x, hT, rfl, rfl, at_⟩
    exact turn i x T σ H (at_ xs tup) hP hT
theorem pi_enumE {X : Cx} (K : PySem.W.Frag) {e : Expr} {ta : TA} {p pos tpos : Pos} {elts : List Expr} {kk : Nat} (hg : Gl X "enumerate") (hm : X.mg "enumerate" = none) (ha : PA X [e] ta) (hK : X.K = K := by rfl) (hs : starEach [e] X.env = [(false, eval e X.env)] := by rfl) :
    PI X (.Tuple elts kk tpos) (.Call (.Name "enumerate" p) [e] [] pos) (iEnum K ta) := by
  rw [← hK]
  exact pi_enum hg hm ha hs
end NV
/-! Lv -/
set_option Elab.async false
set_option linter.all false
set_option maxRecDepth 100000
set_option maxHeartbeats 600000
/-! entries that are not retracted; small matters -/
namespace NV
open PySem PySem.Spec PyProof.Rows L2
def liveB (es : List Ent) (gone : List Str) : List Ent := es.filter fun e => decide (e.id ∉ gone)
theorem kp_none {H H' : Hp} {p : Addr} (k : Kp [] H H') (h : H' p = none) : H p = none := by
  cases e : H p with
  | none => rfl
  | some o => rw [k _ _ (by simp) e] at h; cases h
theorem id_ne {e : Ent} (h : e.Ok) : e.id ≠ "" := fun z => by
  have : idB e.id = true := by
    cases e with
    | wr _ _ _ _ => exact h.1
    | qu _ _ => exact h.1
  rw [z] at this
  exact absurd this (by decide)
end NV
/-! T2 -/
set_option Elab.async false
set_option linter.all false
set_option maxRecDepth 100000
set_option maxHeartbeats 600000
/-! what a target depends on: the log without some writes, the positions met -/
namespace NV
open PySem PySem.Spec PyProof.Rows L2
def backL (l : List Ent) (rows : List Row) : List Row := l.foldr stepT rows
theorem back_take {es : List Ent} {k : Nat} {row : Row} (hk : k ≤ es.length) : ∀ n, n ≤ k → backN es k row n = backL ((es.take k).drop (k - n)) [row]
  | 0, _ => by
    rw [Nat.sub_zero, List.drop_of_length_le (by rw [List.length_take]; omega)]
    rfl
  | n + 1, hn => by
    have ih := back_take (row := row) hk n (by omega)
    have hj : k - (n + 1) < (es.take k).length := by rw [List.length_take]; omega
    rw [List.drop_eq_getElem_cons hj, show k - (n + 1) + 1 = k - n by omega]
    unfold backN backL
    rw [List.foldr_cons, List.getElem_take, List.getElem?_eq_getElem (show k - (n + 1) < es.length by omega)]
    dsimp only
    rw [ih]
    rfl
theorem back_all {es : List Ent} {k : Nat} {row : Row} (hk : k ≤ es.length) : backN es k row k = backL (es.take k) [row] := by
  have := back_take (row := row) hk k (Nat.le_refl _)
  rwa [Nat.sub_self, List.drop_zero] at this
/-- a retracted write, as if it read and wrote nothing -/
def bl (gone : List Str) (e : Ent) : Ent := if e.id ∈ gone then .wr e.id [] [] none else e
theorem bl_id (gone : List Str) (e : Ent) : (bl gone e).id = e.id := by
  unfold bl
  split <;> rfl
theorem step_none {e : Ent} (h : e.ws = []) (rows : List Row) : stepT e rows = rows := by
  have no : rows.any (openIn e) = false := by
    rw [List.any_eq_false]
    intro r _
    unfold openIn
    rw [h]
    simp
  unfold stepT
  rw [no, if_neg Bool.false_ne_true]
theorem back_live (gone : List Str) : ∀ (l : List Ent) (rows : List Row), backL (liveB l gone) rows = backL (l.map (bl gone)) rows
  | [], _ => rfl
  | e :: l, rows => by
    have ih := back_live gone l rows
    unfold liveB at ih ⊢
    rw [List.filter_cons, List.map_cons]
    by_cases h : e.id ∈ gone
    · rw [if_neg (by simp [h])]
      have hb : bl gone e = .wr e.id [] [] none := if_pos h
      show _ = stepT (bl gone e) (backL (l.map (bl gone)) rows)
      rw [hb, step_none rfl, ih]
    · rw [if_pos (by simp [h])]
      have hb : bl gone e = e := if_neg h
      show stepT e (backL _ rows) = stepT (bl gone e) (backL (l.map (bl gone)) rows)
      rw [hb, ih]
/-! ### the positions met, the last first -/
def metL (es : List Ent) (q : Ask) : Nat → List Nat
  | 0 => []
  | n + 1 => if hits es (q.2.2 - (n + 1)) (asks es q n) then metL es q n ++ [q.2.2 - (n + 1)] else metL es q n
theorem asks_succ (es : List Ent) (q : Ask) (n : Nat) : asks es q (n + 1) = if hits es (q.2.2 - (n + 1)) (asks es q n) then asks es q n ++ asksAt es (q.2.2 - (n + 1)) else asks es q n := rfl
theorem metL_succ (es : List Ent) (q : Ask) (n : Nat) : metL es q (n + 1) = if hits es (q.2.2 - (n + 1)) (asks es q n) then metL es q n ++ [q.2.2 - (n + 1)] else metL es q n := rfl
theorem asks_met (es : List Ent) (q : Ask) : ∀ n, asks es q n = q :: (metL es q n).flatMap (asksAt es)
  | 0 => rfl
  | n + 1 => by
    have ih := asks_met es q n
    rw [asks_succ, metL_succ]
    by_cases h : hits es (q.2.2 - (n + 1)) (asks es q n) = true
    · rw [if_pos h, if_pos h, List.flatMap_append, ih]
      simp
    · rw [if_neg h, if_neg h, ih]
theorem asks_mono {es : List Ent} {q : Ask} : ∀ {n m : Nat}, n ≤ m → ∀ r ∈ asks es q n, r ∈ asks es q m
  | n, 0, h, r, hr => by
    obtain rfl : n = 0 := by omega
    exact hr
  | n, m + 1, h, r, hr => by
    by_cases e : n = m + 1
    · rw [← e]; exact hr
    · have := asks_mono (show n ≤ m by omega) r hr
      unfold asks
      split
      · exact List.mem_append_left _ this
      · exact this
theorem met_range {es : List Ent} {q : Ask} : ∀ {n : Nat}, n ≤ q.2.2 → ∀ p ∈ metL es q n, q.2.2 - n ≤ p ∧ p < q.2.2
  | 0, _, p, h => by cases h
  | n + 1, hn, p, h => by
    unfold metL at h
    split at h
    · rcases List.mem_append.mp h with z | z
      · have := met_range (n := n) (by omega) p z
        omega
      · rw [List.mem_singleton.mp z]
        omega
    · have := met_range (n := n) (by omega) p h
      omega
/-- strictly falling -/
theorem met_falls {es : List Ent} {q : Ask} : ∀ {n : Nat}, n ≤ q.2.2 → (metL es q n).Pairwise (· > ·)
  | 0, _ => List.Pairwise.nil
  | n + 1, hn => by
    have ih := met_falls (es := es) (q := q) (n := n) (by omega)
    unfold metL
    split
    · refine List.pairwise_append.mpr ⟨ih, List.pairwise_singleton _ _, fun a ha b hb => ?_⟩
      have := met_range (n := n) (by omega) a ha
      rw [List.mem_singleton.mp hb]
      omega
    · exact ih
/-- a position is met just if some row that is asked has its source there -/
theorem mem_met {es : List Ent} {q : Ask} : ∀ {n : Nat}, n ≤ q.2.2 → ∀ p, p ∈ metL es q n ↔ q.2.2 - n ≤ p ∧ ∃ r ∈ asks es q n, lastIx es r.2.2 r.2.1 = some p
  | 0, _, p => by
    constructor
    · intro h; cases h
    · rintro ⟨h1, r, hr, h2⟩
      rw [List.mem_singleton.mp hr] at h2
      have := (lastIx_lt h2).1
      omega
  | n + 1, hn, p => by
    have ih := mem_met (es := es) (q := q) (n := n) (by omega)
    have key : hits es (q.2.2 - (n + 1)) (asks es q n) = true ↔ ∃ r ∈ asks es q n, lastIx es r.2.2 r.2.1 = some (q.2.2 - (n + 1)) := by
      unfold hits
      rw [List.any_eq_true]
      constructor
      · rintro ⟨r, hr, h⟩; exact ⟨r, hr, of_decide_eq_true h⟩
      · rintro ⟨r, hr, h⟩; exact ⟨r, hr, decide_eq_true h⟩
    rw [metL_succ, asks_succ]
    by_cases h : hits es (q.2.2 - (n + 1)) (asks es q n) = true
    · rw [if_pos h, if_pos h]
      constructor
      · intro hp
        rcases List.mem_append.mp hp with z | z
        · obtain ⟨h1, r, hr, h2⟩ := (ih p).1 z
          exact ⟨by omega, r, List.mem_append_left _ hr, h2⟩
        · rw [List.mem_singleton.mp z]
          obtain ⟨r, hr, h2⟩ := key.1 h
          exact ⟨Nat.le_refl _, r, List.mem_append_left _ hr, h2⟩
      · rintro ⟨h1, r, hr, h2⟩
        rcases List.mem_append.mp hr with z | z
        · by_cases e : p = q.2.2 - (n + 1)
          · exact List.mem_append_right _ (by rw [e]; simp)
          · exact List.mem_append_left _ ((ih p).2 ⟨by omega, r, z, h2⟩)
        · have hpos : r.2.2 = q.2.2 - (n + 1) := by
            unfold asksAt at z
            split at z
            · obtain ⟨c, _, rfl⟩ := List.mem_map.mp z
              rfl
            · cases z
          have := (lastIx_lt h2).1
          omega
    · rw [if_neg h, if_neg h]
      constructor
      · intro hp
        obtain ⟨h1, r, hr, h2⟩ := (ih p).1 hp
        exact ⟨by omega, r, hr, h2⟩
      · rintro ⟨h1, r, hr, h2⟩
        by_cases e : p = q.2.2 - (n + 1)
        · exact absurd (key.2 ⟨r, hr, by rw [h2, e]⟩) h
        · exact (ih p).2 ⟨by omega, r, hr, h2⟩
/-- the sources reached from the target -/
inductive Reach (es : List Ent) (q : Ask) : Nat → Prop
  | base {p : Nat} (h : lastIx es q.2.2 q.2.1 = some p) : Reach es q p
  | step {p j : Nat} {e : Ent} {c : Str} (r : Reach es q j) (he : es[j]? = some e) (hc : c ∈ e.rs) (h : lastIx es j c = some p) : Reach es q p
theorem reach_lt {es : List Ent} {q : Ask} {p : Nat} (r : Reach es q p) : p < q.2.2 := by
  induction r with
  | base h => exact (lastIx_lt h).1
  | step _ _ _ h ih =>
    have := (lastIx_lt h).1
    omega
theorem asks_reach {es : List Ent} {q : Ask} : ∀ {n : Nat}, n ≤ q.2.2 → ∀ r ∈ asks es q n, r = q ∨ ∃ j e c, Reach es q j ∧ es[j]? = some e ∧ c ∈ e.rs ∧ r = (e.id, c, j)
  | 0, _, r, hr => .inl (List.mem_singleton.mp hr)
  | n + 1, hn, r, hr => by
    have ih := asks_reach (es := es) (q := q) (n := n) (by omega)
    unfold asks at hr
    split at hr
    · rename_i hh
      rcases List.mem_append.mp hr with z | z
      · exact ih r z
      · unfold hits at hh
        obtain ⟨r', hr', h2⟩ := List.any_eq_true.mp hh
        have h2 := of_decide_eq_true h2
        have R : Reach es q (q.2.2 - (n + 1)) := by
          rcases ih r' hr' with rfl | ⟨j, e, c, R, he, hc, rfl⟩
          · exact .base h2
          · exact .step R he hc h2
        unfold asksAt at z
        cases he : es[q.2.2 - (n + 1)]? with
        | none => rw [he] at z; cases z
        | some e =>
          rw [he] at z
          obtain ⟨c, hc, rfl⟩ := List.mem_map.mp z
          exact .inr ⟨_, e, c, R, he, hc, rfl⟩
    · exact ih r hr
theorem met_iff {es : List Ent} {q : Ask} (p : Nat) : p ∈ metL es q q.2.2 ↔ Reach es q p := by
  have me : p ∈ metL es q q.2.2 ↔ ∃ r ∈ asks es q q.2.2, lastIx es r.2.2 r.2.1 = some p := by
    rw [mem_met (Nat.le_refl _) p]
    exact ⟨fun h => h.2, fun h => ⟨by omega, h⟩⟩
  constructor
  · intro h
    obtain ⟨r, hr, h2⟩ := me.1 h
    rcases asks_reach (Nat.le_refl _) r hr with rfl | ⟨j, e, c, R, he, hc, rfl⟩
    · exact .base h2
    · exact .step R he hc h2
  · intro R
    induction R with
    | base h =>
      rw [mem_met (Nat.le_refl _)]
      exact ⟨by omega, q, by rw [asks_met]; exact List.mem_cons_self, h⟩
    | @step p j e c R he hc h ih =>
      have hj := ih (by rw [mem_met (Nat.le_refl _)]; exact ⟨fun z => z.2, fun z => ⟨by omega, z⟩⟩)
      rw [mem_met (Nat.le_refl _)]
      refine ⟨by omega, (e.id, c, j), ?_, h⟩
      rw [asks_met]
      refine List.mem_cons_of_mem _ (List.mem_flatMap.mpr ⟨j, hj, ?_⟩)
      unfold asksAt
      rw [he]
      exact List.mem_map.mpr ⟨c, hc, rfl⟩
/-- what the rows say -/
def rowsOf (es : List Ent) (q : Ask) : List Row := (asks es q q.2.2).map (rowA es 0)
theorem rows_back {es : List Ent} {q : Ask} (hk : q.2.2 ≤ es.length) : backL (es.take q.2.2) [(q.1, q.2.1, none)] = rowsOf es q := by
  rw [← back_all hk, back_asks hk q.2.2 (Nat.le_refl _), Nat.sub_self]
  rfl
/-- the rows in the log without the retracted writes -/
theorem rows_live {es : List Ent} {gone : List Str} {q : Ask} (hk : q.2.2 ≤ es.length) : backL (liveB (es.take q.2.2) gone) [(q.1, q.2.1, none)] = rowsOf (es.map (bl gone)) q := by
  rw [back_live, List.map_take]
  exact rows_back (by rw [List.length_map]; exact hk)
end NV
/-! N1 -/
set_option Elab.async false
set_option linter.all false
set_option maxRecDepth 100000
set_option maxHeartbeats 600000
/-! what a target needs, and what it costs to need it -/
namespace NV
open PySem PySem.Spec PyProof.Rows L2
/-- what stands in c ahead of position i is needed by the target q when the writes in gone are retracted -/
inductive Needs (es : List Ent) (gone : List Str) (q : Ask) : Nat → Str → Prop
  | base : Needs es gone q q.2.2 q.2.1
  | pass {j : Nat} {e : Ent} {c : Str} (n : Needs es gone q (j + 1) c) (he : es[j]? = some e) (h : c ∉ e.ws ∨ e.id ∈ gone) : Needs es gone q j c
  | read {j : Nat} {e : Ent} {c r : Str} (n : Needs es gone q (j + 1) c) (he : es[j]? = some e) (hc : c ∈ e.ws) (hg : e.id ∉ gone) (hr : r ∈ e.rs) : Needs es gone q j r
/-- a target: the end, or a query and a cell that it asks for -/
def Goal (es : List Ent) (q : Ask) : Prop := q.2.2 = es.length ∨ ∃ e, es[q.2.2]? = some e ∧ e.isW = false ∧ q.2.1 ∈ e.rs
/-- the total price of those in gone -/
def priceG (gone : List Str) : List Ent → Int
  | [] => 0
  | e :: l => (if e.id ∈ gone then e.pr.getD 0 else 0) + priceG gone l
def GoneW (es : List Ent) (gone : List Str) : Prop := ∀ e ∈ es, e.id ∈ gone → e.isW = true ∧ e.pr ≠ none
/-! ### one entry more -/
theorem readersC_le (e : Ent) (w : Way) (o : Str → Way) (c : Str) : leC 0 (costW (readers e w o c)) (costW (o c)) := by
  unfold readers
  by_cases h : c ∈ e.rs
  · rw [if_pos h]
    match w with
    | none => exact leC.refl (Int.le_refl _) _
    | some (k, p) => exact better_le (Int.le_refl _) _ (leC.refl (Int.le_refl _) _)
  · rw [if_neg h]
    exact leC.refl (Int.le_refl _) _
theorem leC.trans0 {s : Int} {x y z : Cost} (a : leC 0 x y) (b : leC s y z) : leC s x z := fun k e => by
  obtain ⟨m, hm, h1⟩ := b k e
  obtain ⟨n, hn, h2⟩ := a m hm
  exact ⟨n, hn, by omega⟩
theorem on_free {e : Ent} {o : Str → Way} {c : Str} (h : c ∉ e.ws) : leC 0 (costW (stepB e o c)) (costW (o c)) := by
  cases e with
  | wr id rs ws pr =>
    have b : blocked (.wr id rs ws pr) o c = o c := if_neg h
    have := readersC_le (.wr id rs ws pr) (wayFrom o ws) (blocked (.wr id rs ws pr) o) c
    rw [b] at this
    exact this
  | qu id cs => exact readersC_le (.qu id cs) (some (0, [])) o c
theorem on_paid {e : Ent} {o : Str → Way} {c : Str} {i : Int} (h0 : 0 ≤ i) (hp : e.pr = some i) : leC i (costW (stepB e o c)) (costW (o c)) := by
  cases e with
  | wr id rs ws pr =>
    obtain rfl : pr = some i := hp
    refine leC.trans0 (readersC_le (.wr id rs ws (some i)) (wayFrom o ws) (blocked (.wr id rs ws (some i)) o) c) ?_
    unfold blocked
    split
    · exact cost_past_self _
    · exact leC.refl h0 _
  | qu id cs => cases hp
theorem readers_yes {e : Ent} {w : Way} {o : Str → Way} {c : Str} (h : c ∈ e.rs) : leC 0 (costW (readers e w o c)) (costW w) := by
  unfold readers
  rw [if_pos h]
  intro b hb
  match w, hb with
  | some (k, p), hb =>
    obtain rfl : k = b := Option.some.inj hb
    rw [cost_better]
    cases costW (o c) with
    | none => exact ⟨k, rfl, by omega⟩
    | some m => exact ⟨min k m, rfl, by omega⟩
theorem on_read {e : Ent} {o : Str → Way} {c : Str} (hw : e.isW = true) (h : c ∈ e.rs) : leC 0 (costW (stepB e o c)) (costW (wayFrom o e.ws)) := by
  cases e with
  | wr id rs ws pr => exact readers_yes h
  | qu id cs => cases hw
theorem on_query {e : Ent} {o : Str → Way} {c : Str} (hw : e.isW = false) (h : c ∈ e.rs) : leC 0 (costW (stepB e o c)) (some 0) := by
  cases e with
  | wr id rs ws pr => cases hw
  | qu id cs => exact readers_yes (e := .qu id cs) (w := some (0, [])) (o := o) h
theorem fromC_le {o : Str → Way} {ws : List Str} {c : Str} (h : c ∈ ws) : leC 0 (costW (wayFrom o ws)) (costW (o c)) := by
  intro b e
  cases ho : o c with
  | none => rw [ho] at e; cases e
  | some y =>
    rw [ho] at e
    have e : y.1 = b := Option.some.inj e
    have hin : y ∈ ws.filterMap o := List.mem_filterMap.mpr ⟨c, h, ho⟩
    obtain ⟨m, hm, _, hl⟩ := (minW_iff (ws.filterMap o)).2 (fun z => by rw [z] at hin; cases hin)
    refine ⟨m.1, by unfold wayFrom; rw [hm]; rfl, ?_⟩
    have := hl y hin
    omega
theorem fromC_some {o : Str → Way} {ws : List Str} {k : Int} (h : costW (wayFrom o ws) = some k) : ∃ c ∈ ws, costW (o c) = some k := by
  have ne : ws.filterMap o ≠ [] := fun z => by
    have := (minW_iff (ws.filterMap o)).1 z
    unfold wayFrom at h
    rw [this] at h
    cases h
  obtain ⟨m, hm, hmem, _⟩ := (minW_iff (ws.filterMap o)).2 ne
  unfold wayFrom at h
  rw [hm] at h
  obtain ⟨c, hc, ho⟩ := List.mem_filterMap.mp hmem
  exact ⟨c, hc, by rw [ho]; exact h⟩
/-- where the cost of an entry more comes from -/
theorem on_cases {e : Ent} {o : Str → Way} {c : Str} {k : Int} (h : costW (stepB e o c) = some k) :
    (c ∉ e.ws ∧ costW (o c) = some k) ∨ (c ∈ e.ws ∧ ∃ i k', e.pr = some i ∧ costW (o c) = some k' ∧ k = k' + i) ∨ (c ∈ e.rs ∧ e.isW = false ∧ k = 0) ∨ (c ∈ e.rs ∧ e.isW = true ∧ costW (wayFrom o e.ws) = some k) := by
  have reads : ∀ (w : Way) (u : Str → Way), costW (readers e w u c) = some k → costW (u c) = some k ∨ (c ∈ e.rs ∧ costW w = some k) := by
    intro w u hk
    unfold readers at hk
    by_cases hc : c ∈ e.rs
    · rw [if_pos hc] at hk
      match w, hk with
      | none, hk => exact .inl hk
      | some (a, p), hk =>
        dsimp only at hk
        rw [cost_better] at hk
        cases hu : costW (u c) with
        | none =>
          rw [hu] at hk
          exact .inr ⟨hc, hk⟩
        | some m =>
          rw [hu] at hk
          have hk : min a m = k := Option.some.inj hk
          rcases Int.le_total a m with z | z
          · rw [Int.min_eq_left z] at hk
            exact .inr ⟨hc, by rw [← hk]; rfl⟩
          · rw [Int.min_eq_right z] at hk
            exact .inl (by rw [hk])
    · rw [if_neg hc] at hk
      exact .inl hk
  cases e with
  | wr id rs ws pr =>
    rcases reads (wayFrom o ws) (blocked (.wr id rs ws pr) o) h with z | ⟨z1, z2⟩
    · unfold blocked at z
      by_cases hc : c ∈ (Ent.wr id rs ws pr).ws
      · rw [if_pos hc] at z
        refine .inr (.inl ⟨hc, ?_⟩)
        have z : costW (past pr (o c)) = some k := z
        match ho : o c, pr, z with
        | some (a, p), some i, z =>
          exact ⟨i, a, rfl, rfl, (Option.some.inj z).symm⟩
        | some (a, p), none, z => cases z
        | none, _, z => cases z
      · rw [if_neg hc] at z
        exact .inl ⟨hc, z⟩
    · exact .inr (.inr (.inr ⟨z1, rfl, z2⟩))
  | qu id cs =>
    rcases reads (some (0, [])) o h with z | ⟨z1, z2⟩
    · exact .inl ⟨(fun y => by cases y), z⟩
    · exact .inr (.inr (.inl ⟨z1, rfl, (Option.some.inj z2).symm⟩))
/-! ### what is needed costs no more than what is retracted -/
theorem drop_cons {es : List Ent} {j : Nat} {e : Ent} (he : es[j]? = some e) : es.drop j = e :: es.drop (j + 1) := by
  obtain ⟨hj, h⟩ := List.getElem?_eq_some_iff.mp he
  rw [List.drop_eq_getElem_cons hj, h]
theorem on_drop {es : List Ent} {j : Nat} {e : Ent} (he : es[j]? = some e) (c : Str) : onB (es.drop j) c = stepB e (onB (es.drop (j + 1))) c := by
  rw [drop_cons he]
  rfl
theorem priceG_nn {gone : List Str} : ∀ {l : List Ent}, (∀ e ∈ l, e.Ok) → 0 ≤ priceG gone l
  | [], _ => Int.le_refl _
  | e :: l, h => by
    have ih := priceG_nn (gone := gone) (l := l) fun u hu => h u (List.mem_cons_of_mem _ hu)
    have he : 0 ≤ e.pr.getD 0 := by
      have := h e List.mem_cons_self
      cases e with
      | wr id rs ws pr =>
        cases pr with
        | none => exact Int.le_refl _
        | some i =>
          have := this.2.2.2 i rfl
          show 0 ≤ i
          omega
      | qu id cs => exact Int.le_refl _
    unfold priceG
    split <;> omega
theorem goal_zero {es : List Ent} {q : Ask} (g : Goal es q) : leC 0 (costW (onB (es.drop q.2.2) q.2.1)) (some 0) := by
  rcases g with g | ⟨e, he, hw, hr⟩
  · rw [g, List.drop_length]
    exact leC.refl (Int.le_refl _) _
  · rw [on_drop he]
    exact on_query hw hr
theorem le_some {s : Int} {x : Cost} {k : Int} (h : leC s x (some k)) : ∃ a, x = some a ∧ a ≤ k + s := h k rfl
theorem pr_ok {e : Ent} (h : e.Ok) {i : Int} (hp : e.pr = some i) : 1 ≤ i := by
  cases e with
  | wr id rs ws pr => exact (h.2.2.2 i hp).1
  | qu id cs => cases hp
/-- the price of those that keep p alone, and lie from j on -/
theorem needs_le {es : List Ent} {gone : List Str} {q : Ask} (ok : ∀ e ∈ es, e.Ok) (g : Goal es q) (gw : GoneW es gone) (K : Nat → Bool) (S : Nat → Int) (h0 : S q.2.2 ≥ 0) (hS : ∀ j e, es[j]? = some e → S j = (if e.id ∈ gone ∧ K j = true then e.pr.getD 0 else 0) + S (j + 1))
    (hK : ∀ j e c k, es[j]? = some e → c ∈ e.ws → Needs es gone q (j + 1) c → costW (onB (es.drop (j + 1)) c) = some k → k ≤ S (j + 1) → e.id ∈ gone → K j = true) {i : Nat} {c : Str} (n : Needs es gone q i c) :
    ∃ k, costW (onB (es.drop i) c) = some k ∧ k ≤ S i := by
  have sle : ∀ j e, es[j]? = some e → S (j + 1) ≤ S j := fun j e he => by
    have := hS j e he
    have oke := ok e (List.mem_of_getElem? he)
    have : 0 ≤ e.pr.getD 0 := by
      cases hp : e.pr with
      | none => exact Int.le_refl _
      | some i =>
        have := pr_ok oke hp
        show 0 ≤ i
        omega
    split at * <;> omega
  induction n with
  | base =>
    obtain ⟨k, hk, hl⟩ := le_some (goal_zero g)
    exact ⟨k, hk, by omega⟩
  | @pass j e c n he h ih =>
    obtain ⟨k, hk, hl⟩ := ih
    have hmono := sle j e he
    rw [on_drop he]
    by_cases hc : c ∈ e.ws
    · have hg : e.id ∈ gone := h.elim (fun z => absurd hc z) id
      obtain ⟨hw, hp⟩ := gw e (List.mem_of_getElem? he) hg
      cases hpr : e.pr with
      | none => exact absurd hpr hp
      | some i =>
        have h1 := pr_ok (ok e (List.mem_of_getElem? he)) hpr
        have hk' := hK j e c k he hc n hk hl hg
        have le := on_paid (o := onB (es.drop (j + 1))) (c := c) (by omega) hpr
        rw [hk] at le
        obtain ⟨a, ha, hle⟩ := le_some le
        have := hS j e he
        rw [if_pos ⟨hg, hk'⟩, hpr] at this
        exact ⟨a, ha, by simp only [Option.getD_some] at this; omega⟩
    · have le := on_free (o := onB (es.drop (j + 1))) hc
      rw [hk] at le
      obtain ⟨a, ha, hle⟩ := le_some le
      exact ⟨a, ha, by omega⟩
  | @read j e c r n he hc hg hr ih =>
    obtain ⟨k, hk, hl⟩ := ih
    have hmono := sle j e he
    rw [on_drop he]
    have hw : e.isW = true := by
      cases e with
      | wr _ _ _ _ => rfl
      | qu _ _ => cases hc
    have le := (on_read (o := onB (es.drop (j + 1))) hw hr).trans0 (fromC_le (o := onB (es.drop (j + 1))) hc)
    rw [hk] at le
    obtain ⟨a, ha, hle⟩ := le_some le
    exact ⟨a, ha, by omega⟩
theorem price_drop {es : List Ent} {gone : List Str} {j : Nat} {e : Ent} (he : es[j]? = some e) : priceG gone (es.drop j) = (if e.id ∈ gone then e.pr.getD 0 else 0) + priceG gone (es.drop (j + 1)) := by
  rw [drop_cons he]
  rfl
theorem needs_price {es : List Ent} {gone : List Str} {q : Ask} (ok : ∀ e ∈ es, e.Ok) (g : Goal es q) (gw : GoneW es gone) {i : Nat} {c : Str} (n : Needs es gone q i c) : ∃ k, costW (onB (es.drop i) c) = some k ∧ k ≤ priceG gone (es.drop i) := by
  refine needs_le ok g gw (fun _ => true) (fun j => priceG gone (es.drop j)) ?_ (fun j e he => ?_) (fun _ _ _ _ _ _ _ _ _ _ => rfl) n
  · exact priceG_nn fun e he => ok e (List.mem_of_mem_drop he)
  · rw [price_drop he]
    simp
/-! ### and the cost can be reached -/
theorem Needs.congr {es : List Ent} {gone gone' : List Str} {q : Ask} {i : Nat} {c : Str} (n : Needs es gone q i c) : (∀ j e, i ≤ j → es[j]? = some e → (e.id ∈ gone ↔ e.id ∈ gone')) → Needs es gone' q i c := by
  induction n with
  | base => exact fun _ => .base
  | @pass j e c n he h ih =>
    intro same
    exact .pass (ih fun j' e' hj => same j' e' (by omega)) he (h.imp id fun z => (same j e (Nat.le_refl _) he).1 z)
  | @read j e c r n he hc hg hr ih =>
    intro same
    exact .read (ih fun j' e' hj => same j' e' (by omega)) he hc (fun z => hg ((same j e (Nat.le_refl _) he).2 z)) hr
theorem priceG_congr {gone gone' : List Str} : ∀ {l : List Ent}, (∀ e ∈ l, (e.id ∈ gone ↔ e.id ∈ gone')) → priceG gone l = priceG gone' l
  | [], _ => rfl
  | e :: l, h => by
    have ih := priceG_congr (gone := gone) (gone' := gone') (l := l) fun u hu => h u (List.mem_cons_of_mem _ hu)
    unfold priceG
    rw [ih]
    congr 1
    by_cases z : e.id ∈ gone
    · rw [if_pos z, if_pos ((h e List.mem_cons_self).1 z)]
    · rw [if_neg z, if_neg (fun y => z ((h e List.mem_cons_self).2 y))]
theorem reach_price {es : List Ent} (nd : (es.map Ent.id).Nodup) : ∀ (m i : Nat), es.length - i = m → i ≤ es.length → ∀ (c : Str) (k : Int), costW (onB (es.drop i) c) = some k →
    ∃ (gone : List Str) (q : Ask), (∀ z ∈ gone, ∃ e ∈ es.drop i, e.id = z ∧ e.isW = true ∧ e.pr ≠ none) ∧ Goal es q ∧ i ≤ q.2.2 ∧ Needs es gone q i c ∧ priceG gone (es.drop i) = k
  | 0, i, hm, hi, c, k, h => by
    have e : i = es.length := by omega
    rw [e, List.drop_length] at h
    refine ⟨[], ("", c, i), (fun z hz => by cases hz), .inl e, Nat.le_refl _, .base, ?_⟩
    rw [e, List.drop_length]
    exact Option.some.inj h
  | m + 1, i, hm, hi, c, k, h => by
    obtain ⟨e, he⟩ : ∃ e, es[i]? = some e := ⟨_, List.getElem?_eq_getElem (by omega)⟩
    have ih := reach_price nd m (i + 1) (by omega) (by omega)
    rw [on_drop he] at h
    have fresh : ∀ gone : List Str, (∀ z ∈ gone, ∃ u ∈ es.drop (i + 1), u.id = z ∧ u.isW = true ∧ u.pr ≠ none) → e.id ∉ gone := fun gone hg z => by
      obtain ⟨u, hu, hid, _⟩ := hg _ z
      have nd2 : ((es.drop i).map Ent.id).Nodup := nd.sublist ((List.drop_sublist _ _).map _)
      rw [drop_cons he, List.map_cons, List.nodup_cons] at nd2
      exact nd2.1 (List.mem_map.mpr ⟨u, hu, hid⟩)
    have up : ∀ gone : List Str, (∀ z ∈ gone, ∃ u ∈ es.drop (i + 1), u.id = z ∧ u.isW = true ∧ u.pr ≠ none) → ∀ z ∈ gone, ∃ u ∈ es.drop i, u.id = z ∧ u.isW = true ∧ u.pr ≠ none := fun gone hg z hz => by
      obtain ⟨u, hu, r⟩ := hg z hz
      exact ⟨u, by rw [drop_cons he]; exact List.mem_cons_of_mem _ hu, r⟩
    rcases on_cases h with ⟨hc, hk⟩ | ⟨hc, p, k', hp, hk, rfl⟩ | ⟨hr, hw, rfl⟩ | ⟨hr, hw, hk⟩
    · obtain ⟨gone, q, hg, gq, hq, n, hpr⟩ := ih c k hk
      exact ⟨gone, q, up gone hg, gq, by omega, .pass n he (.inl hc), by rw [price_drop he, if_neg (fresh gone hg), hpr]; omega⟩
    · obtain ⟨gone, q, hg, gq, hq, n, hpr⟩ := ih c k' hk
      have hew : e.isW = true := by
        cases e with
        | wr _ _ _ _ => rfl
        | qu _ _ => cases hc
      have other : ∀ u ∈ es.drop (i + 1), u.id ≠ e.id := fun u hu z => by
        have nd2 : ((es.drop i).map Ent.id).Nodup := nd.sublist ((List.drop_sublist _ _).map _)
        rw [drop_cons he, List.map_cons, List.nodup_cons] at nd2
        exact nd2.1 (List.mem_map.mpr ⟨u, hu, z⟩)
      refine ⟨e.id :: gone, q, fun z hz => ?_, gq, by omega, .pass (n.congr fun j u hj hu => ?_) he (.inr List.mem_cons_self), ?_⟩
      · rcases List.mem_cons.mp hz with y | y
        · exact ⟨e, by rw [drop_cons he]; exact List.mem_cons_self, y.symm, hew, by rw [hp]; simp⟩
        · exact up gone hg z y
      · have hin : u ∈ es.drop (i + 1) := List.mem_iff_getElem?.mpr ⟨j - (i + 1), by rw [List.getElem?_drop, show i + 1 + (j - (i + 1)) = j by omega]; exact hu⟩
        exact ⟨fun z => List.mem_cons_of_mem _ z, fun z => (List.mem_cons.mp z).elim (fun y => absurd y (other u hin)) id⟩
      · rw [price_drop he, if_pos List.mem_cons_self, hp]
        have := priceG_congr (gone := gone) (gone' := e.id :: gone) (l := es.drop (i + 1)) fun u hu => ⟨fun z => List.mem_cons_of_mem _ z, fun z => (List.mem_cons.mp z).elim (fun y => absurd y (other u hu)) id⟩
        rw [← this, hpr]
        simp only [Option.getD_some]
        omega
    · refine ⟨[], (e.id, c, i), (fun z hz => by cases hz), .inr ⟨e, he, hw, hr⟩, Nat.le_refl _, .base, ?_⟩
      have none_ : ∀ l : List Ent, priceG [] l = 0 := fun l => by
        induction l with
        | nil => rfl
        | cons u l ih => unfold priceG; rw [ih]; simp
      exact none_ _
    · obtain ⟨c', hc', hk'⟩ := fromC_some hk
      obtain ⟨gone, q, hg, gq, hq, n, hpr⟩ := ih c' k hk'
      exact ⟨gone, q, up gone hg, gq, by omega, .read n he hc' (fresh gone hg) hr, by rw [price_drop he, if_neg (fresh gone hg), hpr]; omega⟩
end NV
/-! Pth -/
set_option Elab.async false
set_option linter.all false
set_option maxRecDepth 100000
set_option maxHeartbeats 600000
/-! the cheapest path itself: its steps, its blockers, what it reaches -/
namespace NV
open PySem PySem.Spec PyProof.Rows L2
/-- the writes of c from i on, ahead of j -/
def blkP (es : List Ent) (i j : Nat) (c : Str) : List Ent := ((es.drop i).take (j - i)).filter fun e => decide (c ∈ e.ws)
def sumP : List Ent → Int
  | [] => 0
  | e :: l => e.pr.getD 0 + sumP l
theorem sumP_app : ∀ a b : List Ent, sumP (a ++ b) = sumP a + sumP b
  | [], b => by simp [sumP]
  | e :: a, b => by
    have := sumP_app a b
    simp only [List.cons_append, sumP]
    omega
def Priced (l : List Ent) : Prop := ∀ e ∈ l, e.pr ≠ none
inductive PathOk (es : List Ent) : Nat → Str → Int → Path → List Ent → Prop
  | fin {i : Nat} {c : Str} (hi : i ≤ es.length) (h : Priced (blkP es i es.length c)) : PathOk es i c (sumP (blkP es i es.length c)) [("", c)] (blkP es i es.length c)
  | query {i j : Nat} {e : Ent} {c : Str} (hij : i ≤ j) (he : es[j]? = some e) (hw : e.isW = false) (hc : c ∈ e.rs) (h : Priced (blkP es i j c)) : PathOk es i c (sumP (blkP es i j c)) [(e.id, c)] (blkP es i j c)
  | read {i j : Nat} {e : Ent} {c c' : Str} {k : Int} {p : Path} {bs : List Ent} (hij : i ≤ j) (he : es[j]? = some e) (hw : e.isW = true) (hc : c ∈ e.rs) (h : Priced (blkP es i j c)) (hc' : c' ∈ e.ws) (r : PathOk es (j + 1) c' k p bs) :
      PathOk es i c (sumP (blkP es i j c) + k) ((e.id, c) :: p) (blkP es i j c ++ bs)
theorem better_cases {x y : Int × Path} {w : Way} (h : better x w = some y) : y = x ∨ w = some y := by
  cases w with
  | none => exact .inl (Option.some.inj h).symm
  | some z =>
    have h : (if wayLt x z = true then some x else some z) = some y := h
    by_cases hl : wayLt x z = true
    · rw [if_pos hl] at h; exact .inl (Option.some.inj h).symm
    · rw [if_neg hl] at h; exact .inr h
theorem from_mem {o : Str → Way} {ws : List Str} {x : Int × Path} (h : wayFrom o ws = some x) : ∃ c ∈ ws, o c = some x := by
  have ne : ws.filterMap o ≠ [] := fun z => by
    have := (minW_iff (ws.filterMap o)).1 z
    unfold wayFrom at h
    rw [this] at h
    cases h
  obtain ⟨m, hm, hmem, _⟩ := (minW_iff (ws.filterMap o)).2 ne
  unfold wayFrom at h
  rw [hm] at h
  obtain rfl := Option.some.inj h
  obtain ⟨c, hc, ho⟩ := List.mem_filterMap.mp hmem
  exact ⟨c, hc, ho⟩
theorem on_full {e : Ent} {o : Str → Way} {c : Str} {k : Int} {p : Path} (h : stepB e o c = some (k, p)) :
    (c ∉ e.ws ∧ o c = some (k, p)) ∨ (c ∈ e.ws ∧ ∃ i k', e.pr = some i ∧ o c = some (k', p) ∧ k = k' + i) ∨ (c ∈ e.rs ∧ e.isW = false ∧ k = 0 ∧ p = [(e.id, c)]) ∨ (c ∈ e.rs ∧ e.isW = true ∧ ∃ c' ∈ e.ws, ∃ p', o c' = some (k, p') ∧ p = (e.id, c) :: p') := by
  have reads : ∀ (w : Way) (u : Str → Way), readers e w u c = some (k, p) → u c = some (k, p) ∨ (c ∈ e.rs ∧ ∃ p', w = some (k, p') ∧ p = (e.id, c) :: p') := by
    intro w u hk
    unfold readers at hk
    by_cases hr : c ∈ e.rs
    · rw [if_pos hr] at hk
      cases w with
      | none => exact .inl hk
      | some x =>
        obtain ⟨k', p'⟩ := x
        rcases better_cases hk with z | z
        · obtain ⟨rfl, rfl⟩ := Prod.mk.inj z
          exact .inr ⟨hr, p', rfl, rfl⟩
        · exact .inl z
    · rw [if_neg hr] at hk
      exact .inl hk
  cases e with
  | wr id rs ws pr =>
    rcases reads (wayFrom o (Ent.wr id rs ws pr).ws) (blocked (.wr id rs ws pr) o) h with z | ⟨hr, p', hw, hp⟩
    · unfold blocked at z
      by_cases hc : c ∈ (Ent.wr id rs ws pr).ws
      · rw [if_pos hc] at z
        cases ho : o c with
        | none => rw [ho] at z; cases z
        | some x =>
          obtain ⟨k', p'⟩ := x
          rw [ho] at z
          unfold past at z
          cases hp : (Ent.wr id rs ws pr).pr with
          | none => rw [hp] at z; cases z
          | some i =>
            rw [hp] at z
            obtain ⟨rfl, rfl⟩ := Prod.mk.inj (Option.some.inj z)
            exact .inr (.inl ⟨hc, i, k', rfl, rfl, rfl⟩)
      · rw [if_neg hc] at z
        exact .inl ⟨hc, z⟩
    · obtain ⟨c', hc', ho⟩ := from_mem hw
      exact .inr (.inr (.inr ⟨hr, rfl, c', hc', p', ho, hp⟩))
  | qu id cs =>
    rcases reads (some (0, [])) o h with z | ⟨hr, p', hw, hp⟩
    · exact .inl ⟨(fun hc => by cases hc), z⟩
    · obtain ⟨rfl, rfl⟩ := Prod.mk.inj (Option.some.inj hw)
      exact .inr (.inr (.inl ⟨hr, rfl, rfl, hp⟩))
theorem blkP_nil (es : List Ent) (i : Nat) (c : Str) : blkP es i i c = [] := by
  unfold blkP
  rw [Nat.sub_self, List.take_zero]
  rfl
theorem blkP_succ {es : List Ent} {i j : Nat} {e : Ent} (he : es[i]? = some e) (hij : i < j) (c : Str) : blkP es i j c = (if c ∈ e.ws then [e] else []) ++ blkP es (i + 1) j c := by
  unfold blkP
  rw [drop_cons he, show j - i = (j - (i + 1)) + 1 by omega, List.take_succ_cons]
  by_cases hc : c ∈ e.ws
  · rw [if_pos hc, List.filter_cons_of_pos (by simp [hc])]
    rfl
  · rw [if_neg hc, List.filter_cons_of_neg (by simp [hc])]
    rfl
/-- the path from one entry on is a path from that entry -/
theorem path_free {es : List Ent} {i : Nat} {e : Ent} {c : Str} {k : Int} {p : Path} {bs : List Ent} (he : es[i]? = some e) (hc : c ∉ e.ws) (h : PathOk es (i + 1) c k p bs) : PathOk es i c k p bs := by
  have same : ∀ j, i + 1 ≤ j → blkP es (i + 1) j c = blkP es i j c := fun j hj => by rw [blkP_succ he (by omega), if_neg hc]; rfl
  have hil := (List.getElem?_eq_some_iff.mp he).1
  cases h with
  | fin hi h => rw [same _ hi] at h ⊢; exact .fin (by omega) h
  | query hij he' hw hcr h => rw [same _ hij] at h ⊢; exact .query (by omega) he' hw hcr h
  | read hij he' hw hcr h hc' r => rw [same _ hij] at h ⊢; exact .read (by omega) he' hw hcr h hc' r
theorem path_paid {es : List Ent} {i : Nat} {e : Ent} {c : Str} {k a : Int} {p : Path} {bs : List Ent} (he : es[i]? = some e) (hc : c ∈ e.ws) (hp : e.pr = some a) (h : PathOk es (i + 1) c k p bs) : PathOk es i c (k + a) p (e :: bs) := by
  have same : ∀ j, i + 1 ≤ j → blkP es i j c = e :: blkP es (i + 1) j c := fun j hj => by rw [blkP_succ he (by omega), if_pos hc]; rfl
  have sums : ∀ l, sumP (e :: l) = sumP l + a := fun l => by simp only [sumP, hp, Option.getD]; omega
  have prs : ∀ {l}, Priced l → Priced (e :: l) := fun h u hu => by
    rcases List.mem_cons.mp hu with z | z
    · rw [z, hp]; simp
    · exact h u z
  have hil := (List.getElem?_eq_some_iff.mp he).1
  cases h with
  | fin hi h =>
    have := PathOk.fin (es := es) (i := i) (c := c) (by omega) (by rw [same _ hi]; exact prs h)
    rw [same _ hi, sums] at this
    exact this
  | query hij he' hw hcr h =>
    have := PathOk.query (es := es) (i := i) (c := c) (by omega) he' hw hcr (by rw [same _ hij]; exact prs h)
    rw [same _ hij, sums] at this
    exact this
  | @read i' j e' c1 c' k' p' bs' hij he' hw hcr h hc' r =>
    have := PathOk.read (es := es) (i := i) (c := c) (by omega) he' hw hcr (by rw [same _ hij]; exact prs h) hc' r
    rw [same _ hij, sums] at this
    rw [show sumP (blkP es (i + 1) j c) + k' + a = sumP (blkP es (i + 1) j c) + a + k' by omega]
    exact this
theorem path_ok {es : List Ent} : ∀ (m i : Nat), es.length - i = m → i ≤ es.length → ∀ (c : Str) (k : Int) (p : Path), onB (es.drop i) c = some (k, p) → ∃ bs, PathOk es i c k p bs
  | 0, i, hm, hi, c, k, p, h => by
    have e : i = es.length := by omega
    subst e
    rw [List.drop_length] at h
    obtain ⟨rfl, rfl⟩ := Prod.mk.inj (Option.some.inj (show some ((0 : Int), [(("" : Str), c)]) = some (k, p) from h))
    have := PathOk.fin (es := es) (i := es.length) (c := c) (Nat.le_refl _) (by rw [blkP_nil]; exact fun _ h => by cases h)
    rw [blkP_nil] at this
    exact ⟨_, this⟩
  | m + 1, i, hm, hi, c, k, p, h => by
    obtain ⟨e, he⟩ : ∃ e, es[i]? = some e := ⟨_, List.getElem?_eq_getElem (by omega)⟩
    have ih := path_ok (es := es) m (i + 1) (by omega) (by omega)
    rw [on_drop he] at h
    have none_ : Priced (blkP es i i c) := by rw [blkP_nil]; exact fun _ h => by cases h
    rcases on_full h with ⟨hc, ho⟩ | ⟨hc, a, k', hp, ho, rfl⟩ | ⟨hr, hw, rfl, rfl⟩ | ⟨hr, hw, c', hc', p', ho, rfl⟩
    · obtain ⟨bs, r⟩ := ih c k p ho
      exact ⟨bs, path_free he hc r⟩
    · obtain ⟨bs, r⟩ := ih c k' p ho
      exact ⟨e :: bs, path_paid he hc hp r⟩
    · have := PathOk.query (es := es) (Nat.le_refl i) he hw hr none_
      rw [blkP_nil] at this
      exact ⟨_, this⟩
    · obtain ⟨bs, r⟩ := ih c' k p' ho
      have := PathOk.read (es := es) (Nat.le_refl i) he hw hr none_ hc' r
      rw [blkP_nil] at this
      rw [show sumP [] + k = k by simp [sumP]] at this
      exact ⟨_, this⟩
theorem PathOk.sum {es : List Ent} {i : Nat} {c : Str} {k : Int} {p : Path} {bs : List Ent} (h : PathOk es i c k p bs) : sumP bs = k ∧ Priced bs ∧ bs.Sublist (es.drop i) ∧ i ≤ es.length := by
  have sub : ∀ i j c, (blkP es i j c).Sublist (es.drop i) := fun i j c => List.filter_sublist.trans (List.take_sublist _ _)
  induction h with
  | fin hi h => exact ⟨rfl, h, sub _ _ _, hi⟩
  | query hij he hw hc h => exact ⟨rfl, h, sub _ _ _, by have := (List.getElem?_eq_some_iff.mp he).1; omega⟩
  | @read i j e c c' k p bs hij he hw hc h hc' r ih =>
    obtain ⟨h1, h2, h3, _⟩ := ih
    refine ⟨by rw [sumP_app, h1], fun u hu => (List.mem_append.mp hu).elim (h u) (h2 u), ?_, by have := (List.getElem?_eq_some_iff.mp he).1; omega⟩
    have e1 : es.drop i = (es.drop i).take (j - i) ++ es.drop j := by
      conv => lhs; rw [← List.take_append_drop (j - i) (es.drop i)]
      rw [List.drop_drop, show i + (j - i) = j by omega]
    rw [e1]
    exact (List.filter_sublist).append (h3.trans (by rw [drop_cons he]; exact List.sublist_cons_self _ _))
end NV
/-! Msk -/
set_option Elab.async false
set_option linter.all false
set_option maxRecDepth 100000
set_option maxHeartbeats 600000
/-! what reaches a target, as bits; costs and reaching -/
namespace NV
open PySem PySem.Spec PyProof.Rows L2
theorem reach_head {es : List Ent} {q : Ask} {p : Nat} : Reach es q p ↔ ∃ s, lastIx es q.2.2 q.2.1 = some s ∧ (p = s ∨ ∃ e, es[s]? = some e ∧ ∃ r ∈ e.rs, Reach es (e.id, r, s) p) := by
  constructor
  · intro h
    induction h with
    | base h => exact ⟨_, h, .inl rfl⟩
    | @step p j e c _ he hc hl ih =>
      obtain ⟨s, hs, z⟩ := ih
      refine ⟨s, hs, .inr ?_⟩
      rcases z with rfl | ⟨e', he', r, hr, hR⟩
      · exact ⟨e, he, c, hc, .base hl⟩
      · exact ⟨e', he', r, hr, .step hR he hc hl⟩
  · rintro ⟨s, hs, z⟩
    rcases z with rfl | ⟨e, he, r, hr, hR⟩
    · exact .base hs
    · induction hR with
      | base h => exact .step (.base hs) he hr h
      | step _ he' hc' hl' ih => exact .step ih he' hc' hl'
def orAll (f : Str → Nat) : List Str → Nat → Nat
  | [], m => m
  | r :: rs, m => orAll f rs (m ||| f r)
theorem or_bit (f : Str → Nat) (p : Nat) : ∀ (rs : List Str) (m : Nat), (orAll f rs m).testBit p = (m.testBit p || rs.any fun r => (f r).testBit p)
  | [], m => by simp [orAll]
  | r :: rs, m => by
    unfold orAll
    rw [or_bit f p rs, Nat.testBit_or, List.any_cons, Bool.or_assoc]
/-- the writes that reach the cell c ahead of i, as bits -/
def mskAt (es : List Ent) (gone : List Str) : Nat → Str → Nat
  | 0, _ => 0
  | i + 1, c => match es[i]? with
    | some e => if wr (es.map (bl gone)) i c = true then orAll (mskAt es gone i) e.rs 0 ||| 2 ^ i else mskAt es gone i c
    | none => mskAt es gone i c
theorem bl_at {es : List Ent} {gone : List Str} {i : Nat} {e : Ent} (he : es[i]? = some e) : (es.map (bl gone))[i]? = some (bl gone e) := by rw [List.getElem?_map, he]; rfl
theorem bl_live {gone : List Str} {e : Ent} (h : e.id ∉ gone) : bl gone e = e := if_neg h
theorem wr_id {es : List Ent} {gone : List Str} {i : Nat} {e : Ent} {c : Str} (he : es[i]? = some e) (h : wr (es.map (bl gone)) i c = true) : e.id ∉ gone ∧ c ∈ e.ws := by
  unfold wr at h
  rw [bl_at he] at h
  have h : c ∈ (bl gone e).ws := of_decide_eq_true h
  by_cases hg : e.id ∈ gone
  · rw [show bl gone e = .wr e.id [] [] none from if_pos hg] at h
    cases h
  · rw [bl_live hg] at h
    exact ⟨hg, h⟩
theorem wr_of {es : List Ent} {gone : List Str} {i : Nat} {e : Ent} {c : Str} (he : es[i]? = some e) (hg : e.id ∉ gone) (hc : c ∈ e.ws) : wr (es.map (bl gone)) i c = true := by
  unfold wr
  rw [bl_at he, bl_live hg]
  exact decide_eq_true hc
theorem msk_bit (es : List Ent) (gone : List Str) (p : Nat) : ∀ (i : Nat) (z c : Str), (mskAt es gone i c).testBit p = true ↔ Reach (es.map (bl gone)) (z, c, i) p
  | 0, z, c => by
    rw [reach_head]
    constructor
    · intro h
      simp [mskAt] at h
    · rintro ⟨s, hs, _⟩
      cases hs
  | i + 1, z, c => by
    have hsucc : lastIx (es.map (bl gone)) (i + 1) c = if wr (es.map (bl gone)) i c then some i else lastIx (es.map (bl gone)) i c := rfl
    have no : wr (es.map (bl gone)) i c = false → (Reach (es.map (bl gone)) (z, c, i + 1) p ↔ Reach (es.map (bl gone)) (z, c, i) p) := fun h => by
      rw [reach_head, reach_head]
      show (∃ s, lastIx (es.map (bl gone)) (i + 1) c = some s ∧ _) ↔ _
      rw [hsucc, h, if_neg Bool.false_ne_true]
    unfold mskAt
    cases he : es[i]? with
    | none =>
      dsimp only
      rw [msk_bit es gone p i z c]
      refine (no ?_).symm
      unfold wr
      rw [List.getElem?_map, he]
      rfl
    | some e =>
      dsimp only
      cases hw : wr (es.map (bl gone)) i c with
      | false =>
        rw [if_neg Bool.false_ne_true, msk_bit es gone p i z c]
        exact (no hw).symm
      | true =>
        rw [if_pos rfl, Nat.testBit_or, or_bit, Nat.testBit_two_pow, reach_head]
        obtain ⟨hg, hc⟩ := wr_id he hw
        have live := bl_at (gone := gone) he
        rw [bl_live hg] at live
        simp only [Nat.zero_testBit, Bool.false_or, Bool.or_eq_true, decide_eq_true_eq, List.any_eq_true]
        constructor
        · rintro (⟨r, hr, hb⟩ | h)
          · exact ⟨i, by show lastIx _ (i + 1) c = _; rw [hsucc, hw, if_pos rfl], .inr ⟨e, live, r, hr, (msk_bit es gone p i e.id r).mp hb⟩⟩
          · exact ⟨i, by show lastIx _ (i + 1) c = _; rw [hsucc, hw, if_pos rfl], .inl h.symm⟩
        · rintro ⟨s, hs, h⟩
          have hs : lastIx (es.map (bl gone)) (i + 1) c = some s := hs
          rw [hsucc, hw, if_pos rfl] at hs
          obtain rfl := Option.some.inj hs
          rcases h with rfl | ⟨e', he', r, hr, hR⟩
          · exact .inr rfl
          · rw [live] at he'
            obtain rfl := Option.some.inj he'
            exact .inl ⟨r, hr, (msk_bit es gone p i e.id r).mpr hR⟩
/-- what reaches the queries ahead of i -/
def totQ (es : List Ent) (gone : List Str) : Nat → Nat
  | 0 => 0
  | i + 1 => match es[i]? with
    | some e => if e.isW = true then totQ es gone i else totQ es gone i ||| orAll (mskAt es gone i) e.rs 0
    | none => totQ es gone i
theorem tot_bit (es : List Ent) (gone : List Str) (p : Nat) : ∀ i, (totQ es gone i).testBit p = true ↔ ∃ (j : Nat) (e : Ent) (r : Str), j < i ∧ es[j]? = some e ∧ e.isW = false ∧ r ∈ e.rs ∧ Reach (es.map (bl gone)) (e.id, r, j) p
  | 0 => by
    constructor
    · intro h
      simp [totQ] at h
    · rintro ⟨j, _, _, hj, _⟩
      omega
  | i + 1 => by
    have ih := tot_bit es gone p i
    have low : (∃ (j : Nat) (e : Ent) (r : Str), j < i ∧ es[j]? = some e ∧ e.isW = false ∧ r ∈ e.rs ∧ Reach (es.map (bl gone)) (e.id, r, j) p) → ∃ (j : Nat) (e : Ent) (r : Str), j < i + 1 ∧ es[j]? = some e ∧ e.isW = false ∧ r ∈ e.rs ∧ Reach (es.map (bl gone)) (e.id, r, j) p := fun ⟨j, e, r, h, t⟩ => ⟨j, e, r, by omega, t⟩
    unfold totQ
    cases he : es[i]? with
    | none =>
      dsimp only
      rw [ih]
      refine ⟨low, ?_⟩
      rintro ⟨j, e, r, hj, he', t⟩
      by_cases hji : j = i
      · rw [hji, he] at he'; cases he'
      · exact ⟨j, e, r, by omega, he', t⟩
    | some e =>
      dsimp only
      cases hw : e.isW with
      | true =>
        rw [if_pos rfl, ih]
        refine ⟨low, ?_⟩
        rintro ⟨j, e', r, hj, he', hw', t⟩
        by_cases hji : j = i
        · rw [hji, he] at he'
          obtain rfl := Option.some.inj he'
          rw [hw] at hw'; cases hw'
        · exact ⟨j, e', r, by omega, he', hw', t⟩
      | false =>
        rw [if_neg Bool.false_ne_true, Nat.testBit_or, or_bit, Nat.zero_testBit, Bool.false_or, Bool.or_eq_true, ih, List.any_eq_true]
        constructor
        · rintro (h | ⟨r, hr, hb⟩)
          · exact low h
          · exact ⟨i, e, r, by omega, he, hw, hr, (msk_bit es gone p i e.id r).mp hb⟩
        · rintro ⟨j, e', r, hj, he', hw', hr, hR⟩
          by_cases hji : j = i
          · subst hji
            rw [he] at he'
            obtain rfl := Option.some.inj he'
            exact .inr ⟨r, hr, (msk_bit es gone p j e.id r).mpr hR⟩
          · exact .inl ⟨j, e', r, by omega, he', hw', hr, hR⟩
/-! ### what reaches, costs -/
theorem needs_down {es : List Ent} {gone : List Str} {q : Ask} {c : Str} {p : Nat} : ∀ {k : Nat}, k ≤ es.length → lastIx (es.map (bl gone)) k c = some p → Needs es gone q k c → Needs es gone q (p + 1) c
  | k + 1, hk, h, n => by
    have h : (if wr (es.map (bl gone)) k c then some k else lastIx (es.map (bl gone)) k c) = some p := h
    obtain ⟨e, he⟩ : ∃ e, es[k]? = some e := ⟨_, List.getElem?_eq_getElem (by omega)⟩
    cases hw : wr (es.map (bl gone)) k c with
    | true =>
      rw [hw, if_pos rfl] at h
      obtain rfl := Option.some.inj h
      exact n
    | false =>
      rw [hw, if_neg Bool.false_ne_true] at h
      refine needs_down (by omega) h (.pass n he ?_)
      by_cases hg : e.id ∈ gone
      · exact .inr hg
      · refine .inl fun hc => ?_
        rw [wr_of he hg hc] at hw
        cases hw
theorem reach_needs {es : List Ent} {gone : List Str} {q : Ask} (hq : q.2.2 ≤ es.length) {p : Nat} (h : Reach (es.map (bl gone)) q p) : ∃ e, es[p]? = some e ∧ e.id ∉ gone ∧ ∃ c ∈ e.ws, Needs es gone q (p + 1) c := by
  have at_ : ∀ {k : Nat} {c : Str} {p : Nat}, lastIx (es.map (bl gone)) k c = some p → ∃ e, es[p]? = some e ∧ e.id ∉ gone ∧ c ∈ e.ws := fun {k c p} h => by
    obtain ⟨_, hw⟩ := lastIx_lt h
    cases he : es[p]? with
    | none =>
      unfold wr at hw
      rw [List.getElem?_map, he] at hw
      cases hw
    | some e => exact ⟨e, rfl, wr_id he hw⟩
  induction h with
  | base h =>
    obtain ⟨e, he, hg, hc⟩ := at_ h
    exact ⟨e, he, hg, _, hc, needs_down hq h .base⟩
  | @step p j e' c _ he' hc' hl ih =>
    obtain ⟨ej, hej, hgj, c0, hc0, n⟩ := ih
    rw [bl_at hej, bl_live hgj] at he'
    obtain rfl := Option.some.inj he'
    obtain ⟨e, he, hg, hc⟩ := at_ hl
    have hj := (List.getElem?_eq_some_iff.mp hej).1
    exact ⟨e, he, hg, c, hc, needs_down (by omega) hl (.read n hej hc0 hgj hc')⟩
theorem price_le_drop {es : List Ent} {gone : List Str} (ok : ∀ e ∈ es, e.Ok) : ∀ i, priceG gone (es.drop i) ≤ priceG gone es
  | 0 => Int.le_refl _
  | i + 1 => by
    have ih := price_le_drop (gone := gone) ok i
    cases he : es[i]? with
    | none =>
      have h1 : es.drop (i + 1) = [] := List.drop_eq_nil_of_le (by have := List.getElem?_eq_none_iff.mp he; omega)
      rw [h1]
      exact priceG_nn ok
    | some e =>
      rw [price_drop he] at ih
      have h0 : (0 : Int) ≤ (if e.id ∈ gone then e.pr.getD 0 else 0) := by
        by_cases hg : e.id ∈ gone
        · rw [if_pos hg]
          cases hp : e.pr with
          | none => exact Int.le_refl _
          | some a => have := pr_ok (ok e (List.mem_of_getElem? he)) hp; show 0 ≤ a; omega
        · rw [if_neg hg]; exact Int.le_refl _
      omega
theorem goal_le {es : List Ent} {q : Ask} (g : Goal es q) : q.2.2 ≤ es.length := by
  rcases g with h | ⟨e, he, _⟩
  · omega
  · exact Nat.le_of_lt (List.getElem?_eq_some_iff.mp he).1
theorem reach_cost {es : List Ent} {gone : List Str} {q : Ask} (ok : ∀ e ∈ es, e.Ok) (g : Goal es q) (gw : GoneW es gone) {p : Nat} (h : Reach (es.map (bl gone)) q p) : ∃ e, es[p]? = some e ∧ ∃ k, costW (wayFrom (onB (es.drop (p + 1))) e.ws) = some k ∧ k ≤ priceG gone es := by
  obtain ⟨e, he, _, c, hc, n⟩ := reach_needs (goal_le g) h
  obtain ⟨k0, h1, h2⟩ := needs_price ok g gw n
  obtain ⟨k, hk, hle⟩ := fromC_le (o := onB (es.drop (p + 1))) hc k0 h1
  exact ⟨e, he, k, hk, by have := price_le_drop (gone := gone) ok (p + 1); omega⟩
/-! ### and the path reaches -/
theorem mem_blkP {es : List Ent} {i j t : Nat} {u : Ent} {c : Str} (hu : es[t]? = some u) (h1 : i ≤ t) (h2 : t < j) (hc : c ∈ u.ws) : u ∈ blkP es i j c := by
  refine List.mem_filter.mpr ⟨?_, decide_eq_true hc⟩
  refine List.mem_of_getElem? (i := t - i) ?_
  rw [List.getElem?_take_of_lt (by omega), List.getElem?_drop, show i + (t - i) = t by omega]
  exact hu
theorem blkP_mem {es : List Ent} {i j : Nat} {u : Ent} {c : Str} (h : u ∈ blkP es i j c) : ∃ t, i ≤ t ∧ t < j ∧ es[t]? = some u ∧ c ∈ u.ws := by
  obtain ⟨h1, h2⟩ := List.mem_filter.mp h
  obtain ⟨n, hn⟩ := List.getElem?_of_mem h1
  have hlt : n < j - i := by
    have := (List.getElem?_eq_some_iff.mp hn).1
    rw [List.length_take] at this
    omega
  rw [List.getElem?_take_of_lt hlt, List.getElem?_drop] at hn
  exact ⟨i + n, by omega, by omega, hn, of_decide_eq_true h2⟩
theorem at_uniq {es : List Ent} (nd : (es.map Ent.id).Nodup) {a b : Nat} {u v : Ent} (ha : es[a]? = some u) (hb : es[b]? = some v) (h : u.id = v.id) : a = b := by
  have h1 : (es.map Ent.id)[a]? = some u.id := by rw [List.getElem?_map, ha]; rfl
  have h2 : (es.map Ent.id)[b]? = some u.id := by rw [List.getElem?_map, hb, h]; rfl
  obtain ⟨la, ea⟩ := List.getElem?_eq_some_iff.mp h1
  obtain ⟨lb, eb⟩ := List.getElem?_eq_some_iff.mp h2
  exact (List.getElem_inj nd).mp (ea.trans eb.symm)
theorem last_through {es : List Ent} {c : Str} {s : Nat} (hs : wr es s c = true) : ∀ {j : Nat}, s + 1 ≤ j → (∀ t, s < t → t < j → wr es t c = false) → lastIx es j c = some s
  | j + 1, h, hn => by
    show (if wr es j c then some j else lastIx es j c) = some s
    by_cases hj : j = s
    · subst hj
      rw [hs, if_pos rfl]
    · rw [hn j (by omega) (by omega), if_neg Bool.false_ne_true]
      exact last_through hs (by omega) fun t h1 h2 => hn t h1 (by omega)
theorem path_reach {es : List Ent} (nd : (es.map Ent.id).Nodup) {i : Nat} {c : Str} {k : Int} {p : Path} {bs : List Ent} (h : PathOk es i c k p bs) : ∀ gone : List Str, (∀ t u, i ≤ t → es[t]? = some u → (u.id ∈ gone ↔ u ∈ bs)) →
    ∃ q : Ask, Goal es q ∧ p.getLast? = some (q.1, q.2.1) ∧ (q.1 = "" ∧ q.2.2 = es.length ∨ ∃ e, es[q.2.2]? = some e ∧ e.id = q.1) ∧ ∀ s e, s + 1 = i → es[s]? = some e → c ∈ e.ws → e.id ∉ gone → Reach (es.map (bl gone)) q s := by
  have thru : ∀ {gone : List Str} {i j s : Nat} {c : Str} {bs : List Ent} {e : Ent}, (∀ t u, i ≤ t → es[t]? = some u → (u.id ∈ gone ↔ u ∈ bs)) → (∀ u ∈ blkP es i j c, u ∈ bs) → i ≤ j → j ≤ es.length → s + 1 = i → es[s]? = some e → c ∈ e.ws → e.id ∉ gone → lastIx (es.map (bl gone)) j c = some s := by
    intro gone i j s c bs e hg hb hij hj hs he hc hn
    refine last_through (wr_of he hn hc) (by omega) fun t h1 h2 => ?_
    obtain ⟨u, hu⟩ : ∃ u, es[t]? = some u := ⟨_, List.getElem?_eq_getElem (by omega)⟩
    cases hw : wr (es.map (bl gone)) t c with
    | false => rfl
    | true =>
      obtain ⟨h3, h4⟩ := wr_id hu hw
      exact absurd ((hg t u (by omega) hu).mpr (hb u (mem_blkP hu (by omega) h2 h4))) h3
  induction h with
  | @fin i c hi h =>
    intro gone hg
    refine ⟨("", c, es.length), .inl rfl, rfl, .inl ⟨rfl, rfl⟩, fun s e hs he hc hn => .base ?_⟩
    exact thru hg (fun u hu => hu) hi (Nat.le_refl _) hs he hc hn
  | @query i j e c hij he hw hc h =>
    intro gone hg
    have hj := (List.getElem?_eq_some_iff.mp he).1
    refine ⟨(e.id, c, j), .inr ⟨e, he, hw, hc⟩, rfl, .inr ⟨e, he, rfl⟩, fun s e' hs he' hc' hn => .base ?_⟩
    exact thru hg (fun u hu => hu) hij (Nat.le_of_lt hj) hs he' hc' hn
  | @read i j e c c' k p bs hij he hw hcr hp hc' r ih =>
    intro gone hg
    have hj := (List.getElem?_eq_some_iff.mp he).1
    have tail : ∀ t u, j + 1 ≤ t → es[t]? = some u → (u.id ∈ gone ↔ u ∈ bs) := fun t u ht hu => by
      rw [hg t u (by omega) hu, List.mem_append]
      refine ⟨fun z => z.elim (fun y => ?_) id, .inr⟩
      obtain ⟨t', h1, h2, h3, _⟩ := blkP_mem y
      have := at_uniq nd hu h3 rfl
      omega
    have node : e.id ∉ gone := fun z => by
      rcases List.mem_append.mp ((hg j e hij he).mp z) with y | y
      · obtain ⟨t', h1, h2, h3, _⟩ := blkP_mem y
        have := at_uniq nd he h3 rfl
        omega
      · obtain ⟨n, hn⟩ := List.getElem?_of_mem (r.sum.2.2.1.subset y)
        rw [List.getElem?_drop] at hn
        have := at_uniq nd he hn rfl
        omega
    obtain ⟨q, gq, hl, hpos, hR⟩ := ih gone tail
    refine ⟨q, gq, ?_, hpos, fun s e' hs he' hcs hn => ?_⟩
    · rw [List.getLast?_cons, hl]
      rfl
    · have R := hR j e rfl he hc' node
      refine .step R (bl_at he) (by rw [bl_live node]; exact hcr) ?_
      exact thru hg (fun u hu => List.mem_append_left _ hu) hij (by omega) hs he' hcs hn
theorem sum_price_sub : ∀ {es bs : List Ent}, bs.Sublist es → (es.map Ent.id).Nodup → priceG (bs.map Ent.id) es = sumP bs
  | [], bs, h, _ => by
    obtain rfl := List.sublist_nil.mp h
    rfl
  | e :: es, bs, h, nd => by
    rw [List.map_cons, List.nodup_cons] at nd
    cases h with
    | cons _ h =>
      have hn : e.id ∉ bs.map Ent.id := fun z => nd.1 ((h.map Ent.id).subset z)
      unfold priceG
      rw [if_neg hn, sum_price_sub h nd.2]
      omega
    | @cons_cons l _ _ h =>
      have hp : priceG ((e :: l).map Ent.id) es = priceG (l.map Ent.id) es := priceG_congr fun u hu => by
        rw [List.map_cons, List.mem_cons]
        refine ⟨fun z => z.elim (fun y => absurd (List.mem_map.mpr ⟨u, hu, y⟩) nd.1) id, .inr⟩
      unfold priceG
      rw [hp, sum_price_sub h nd.2, if_pos (by simp)]
      rfl
end NV
/-! C09b -/
set_option Elab.async false
set_option linter.all false
set_option maxRecDepth 100000
set_option maxHeartbeats 1000000
/-! sums of prices; a place among places; names that stand once -/
namespace NV
open PySem PySem.Spec PyProof.Rows L2
theorem ne_cost {K : PySem.W.Frag} {H : Hp} {x : Cost} {Q : VK} (q : Q (.bl false) H) : rNeD K (costV x) (costV x) H Q := by
  cases x with
  | none => exact ⟨.none, .none, .non, .non, by decide, by decide, q⟩
  | some k =>
    refine ⟨.int k, .int k, .int k, .int k, ?_, ?_, ?_⟩
    · unfold SeqAt.shaped; simp [PyData.canLay0, PyData.depth]
    · unfold SeqAt.shaped; simp [PyData.canLay0, PyData.depth]
    · have : PyData.eqv (.int k) (.int k) = true := SeqAt.eqv_refl _ (by simp [PyData.canLay0])
      rw [this]
      exact q
/-- the prices of those whose names stand in a list -/
theorem sum_gone (gone : List Str) : ∀ l : List Ent, ((l.filter fun e => decide (e.id ∈ gone)).map fun e => e.pr.getD 0).sum = priceG gone l
  | [] => rfl
  | e :: l => by
    have ih := sum_gone gone l
    unfold priceG
    by_cases h : e.id ∈ gone
    · rw [List.filter_cons_of_pos (by simp [h]), List.map_cons, List.sum_cons, if_pos h, ih]
    · rw [List.filter_cons_of_neg (by simp [h]), if_neg h, ih]
      omega
/-- a place among places -/
theorem notin_ints {K : PySem.W.Frag} {H : Hp} {a : Addr} {ns : List Int} {i : Int} {Q : VK} (ha : H a = some (.lst (ns.map V.int))) (hi : i ∈ ns) (q : Q (.bl false) H) : rIn K true (.int i) (.ref a) H Q := by
  refine ⟨a, ns.map V.int, rfl, .inl (SqL.of ha), rfl, ?_, ?_⟩
  · rw [List.all_map]
    exact List.all_eq_true.mpr fun x _ => rfl
  · have e : inV (.int i) (ns.map V.int) = true := by
      unfold inV
      rw [List.any_map, List.any_eq_true]
      exact ⟨i, hi, by show (i == i) = true; exact beq_self_eq_true i⟩
    rw [if_pos rfl, e]
    exact q
theorem id_one : ∀ {es : List Ent}, (es.map Ent.id).Nodup → ∀ {e u : Ent}, e ∈ es → u ∈ es → e.id = u.id → e = u
  | [], _, _, _, h, _, _ => by cases h
  | x :: es, nd, e, u, he, hu, h => by
    rw [List.map_cons, List.nodup_cons] at nd
    rcases List.mem_cons.mp he with rfl | he'
    · rcases List.mem_cons.mp hu with rfl | hu'
      · rfl
      · exact absurd (List.mem_map.mpr ⟨u, hu', h.symm⟩) nd.1
    · rcases List.mem_cons.mp hu with rfl | hu'
      · exact absurd (List.mem_map.mpr ⟨e, he', h⟩) nd.1
      · exact id_one nd.2 he' hu' h
end NV
/-! InD2 -/
set_option Elab.async false
set_option linter.all false
set_option maxRecDepth 100000
set_option maxHeartbeats 1000000
/-! data not in a tuple of data; an entry among the kept -/
namespace NV
open PySem PySem.Spec PyProof.Rows L2
def rNotInDT (K : PySem.W.Frag) : R2 := fun x y H Q => ∃ (d : PyData) (ds : List PyData) (ex ex' : List Addr), Rp ex H d x ∧ Rp ex' H (.tuple ds) y ∧ DOk 2 d ∧ (∀ u ∈ ds, DOk 2 u) ∧ Q (.bl (!(ds.any fun u => PyData.eqv u d))) H
theorem op_notInDT {X : Cx} (K : PySem.W.Frag) (hu : X.A.units + 64 < cLine) (hK : X.K = K := by rfl) : OpR X (compareOp .NotIn) (rNotInDT K) := by
  intro pins s σ H x y v u Q I rx ry h
  obtain ⟨d, ds, ex, ex', hd, hds, kd, kds, q⟩ := h
  obtain ⟨as, r1⟩ := rp_reads I.hok _ x v hd rx
  obtain ⟨bs, r2⟩ := rp_reads I.hok _ y u hds ry
  have l1 := DOk.all kds
  exact SeqAt.notIn_tuple_data r2 r1 (PyData.plainAll_of_canLay0 _ l1.2.1) (PyData.plain_of_canLay0 _ kd.lay) (by have := l1.2.2; have := Nat.min_le_left (PyData.depthAll ds) d.depth; omega) ⟨.bl _, H, I, rfl, q⟩
theorem eqv_idN {a b : Ent} (h : PyData.eqv a.data b.data = true) : a.id = b.id := by
  cases a <;> cases b <;> simp [Ent.data, PyData.eqv, PyData.eqvAll] at h <;> simp [Ent.id, h]
theorem notin_kept {es ks : List Ent} {e : Ent} (nd : (es.map Ent.id).Nodup) (hs : ks.Sublist es) (ok : ∀ e ∈ es, e.Ok) (he : e ∈ es) : (!((ks.map Ent.data).any fun u => PyData.eqv u e.data)) = decide (e.id ∉ ks.map Ent.id) := by
  by_cases hm : e.id ∈ ks.map Ent.id
  · have h1 : ((ks.map Ent.data).any fun u => PyData.eqv u e.data) = true := by
      obtain ⟨u, hu, hid⟩ := List.mem_map.mp hm
      obtain rfl := id_one nd (hs.subset hu) he hid
      rw [List.any_map, List.any_eq_true]
      exact ⟨u, hu, SeqAt.eqv_refl _ (ent_dok (ok u he)).lay⟩
    rw [h1, decide_eq_false (fun z => z hm)]
    rfl
  · have h1 : ((ks.map Ent.data).any fun u => PyData.eqv u e.data) = false := by
      rw [List.any_map, Bool.eq_false_iff]
      intro h
      obtain ⟨u, hu, hq⟩ := List.any_eq_true.mp h
      exact hm (List.mem_map.mpr ⟨u, hu, eqv_idN hq⟩)
    rw [h1, decide_eq_true hm]
    rfl
end NV
/-! D3 -/
set_option Elab.async false
set_option linter.all false
set_option maxRecDepth 100000
set_option maxHeartbeats 400000
namespace NV
open PySem PySem.Spec PyProof.Rows L2
open C8 (pss_cut)
abbrev sLawPick : Stmt := topS 69
theorem scLawPick : FnScope ["draw", "some"] ["draw", "some"] (defScope sLawPick) := ⟨rfl, rfl, rfl, by decide +kernel, rfl, by decide +kernel, by decide +kernel⟩
def spPick (K : PySem.W.Frag) : Sp := fun vs H Q _ => ∃ (D : Dr) (n : Nat) (a : Addr) (xs : List V), vs = [.ref D.d, .ref a] ∧ SqL K H a xs ∧ 0 < xs.length ∧ xs.length < 1073741824 ∧ a ∉ D.ex ∧ DrAt D (n + 1) H ∧
  ∀ (i : Nat) (v : V) (H' : Hp), xs[i]? = some v → Kp D.ex H H' → DrAt D n H' → Q v H'
section
variable {P : Program} {w : World} {K : PySem.W.Frag} {mg : Str → Option Value} {base : Heap}
theorem ok_pick (D : Fn K mg "_law_pick" sLawPick ["draw", "some"]) (T : Fn K mg "_law_take" sLawTake ["draw", "size"]) (b_len : mg "len" = none) (G : FnOk P w K mg base CX0 2 T.f T.fd ["draw", "size"] spTake) : FnOk P w K mg base CX0 3 D.f D.fd ["draw", "some"] (spPick K) := by
  refine D.F.ok scLawPick (fun vs H Q E h => ?_) (fun cdv A outer s H vs Q E hr h => ?_)
  · obtain ⟨D, n, a, xs, rfl, _⟩ := h
    rfl
  obtain ⟨D, n, a, xs, rfl, hS, l0, l1, ha, hD, q⟩ := h
  refine ⟨_, pss_one (ps_ret (pe_ix ix_list (pv 1) (pe_fn T G hr (pa_cons (pv 0) (pa_cons (pe_callB call_len_seq (by rfl) b_len (by decide +kernel) (pa_cons (pv 1) pa_nil)) pa_nil))) (fun _ _ => rfl))), ?_⟩
  refine ⟨_, rfl, _, rfl, _, rfl, a, xs, rfl, .inl hS, D, n, _, rfl, (by omega), (by omega), hD, fun i H' h0 h1 k hD' => ?_⟩
  have hlt : i.toNat < xs.length := by omega
  have ei : ((i.toNat : Nat) : Int) = i := by omega
  have g : atI xs ((i.toNat : Nat) : Int) = some xs[i.toNat] := atI_nat (List.getElem?_eq_getElem hlt)
  rw [ei] at g
  exact ⟨a, xs, i, xs[i.toNat], rfl, rfl, k.seqL ha hS, g, q i.toNat _ H' (List.getElem?_eq_getElem hlt) k hD'⟩
end
end NV
/-! D4 -/

/-! D5 -/
set_option Elab.async false
set_option linter.all false
set_option maxRecDepth 100000
set_option maxHeartbeats 600000
namespace NV
open PySem PySem.Spec PyProof.Rows L2
open C8 (pss_cut)
/-- the element of such a comprehension, by values -/
theorem pop_turn {Dr : Dr} {m : Nat} {pl : Addr} {rest : List Str} {H2 : Hp} {size : Int} {Q : V → Hp → Prop} (hnpl : pl ∉ Dr.all) (h : H2 pl = some (.lst (rest.map V.str))) (hD : DrAt Dr (m + 1) H2) (hs : 0 < size) (hs1 : size ≤ rest.length) (hs2 : rest.length < 1000)
    (q : ∀ (j : Nat) (y : Str) (H3 : Hp), rest[j]? = some y → H3 pl = some (.lst ((rest.eraseIdx j).map V.str)) → Kp (pl :: Dr.ex) H2 H3 → DrAt Dr m H3 → Q (.str y) H3) :
    spTake [.ref Dr.d, .int size] H2 (fun y H3 => rPopAt (.ref pl) [y] H3 Q) (fun _ _ _ => False) := by
  refine ⟨Dr, m, size, rfl, hs, by omega, hD, fun i H3 h0 h1 k d => ?_⟩
  have hlt : i.toNat < rest.length := by omega
  have h3 := k _ _ (Dr.sub hnpl) h
  have g : (rest.map V.str)[i.toNat]? = some (.str rest[i.toNat]) := by rw [List.getElem?_map, List.getElem?_eq_getElem hlt]; rfl
  refine ⟨pl, _, i, i.toNat, _, rfl, rfl, h3, by omega, by omega, sq_at h0 (by rw [List.length_map]; omega), g, ?_⟩
  rw [erase_str]
  exact q i.toNat _ _ (List.getElem?_eq_getElem hlt) upd_same ((k.mono fun b hb => List.mem_cons_of_mem _ hb).trans (Kp.put List.mem_cons_self)) (d.upd hnpl)
abbrev sLawSome : Stmt := topS 72
theorem scLawSome : FnScope ["draw", "cells", "least", "found", "cell"] ["draw", "cells", "least"] (defScope sLawSome) := ⟨rfl, rfl, rfl, by decide +kernel, rfl, by decide +kernel, by decide +kernel⟩
def spSome (K : PySem.W.Frag) : Sp := fun vs H Q _ => ∃ (D : Dr) (n : Nat) (a : Addr) (zs : List Str) (least : Nat), vs = [.ref D.d, .ref a, .int least] ∧ H a = some (.lst (zs.map V.str)) ∧ a ∉ D.all ∧ Asc zs ∧ 1 ≤ zs.length ∧ zs.length ≤ 60 ∧ least ≤ 1 ∧ DrAt D (n + zs.length + 1) H ∧
  ∀ (ys : List Str) (p : Addr) (H' : Hp), (∀ y ∈ ys, y ∈ zs) → Asc ys → least ≤ ys.length → ys.length ≤ 3 → H p = none → H' p = some (.tup (ys.map V.str)) → Kp D.ex H H' → DrAt D n H' → Q (.ref p) H'
section
variable {P : Program} {w : World} {K : PySem.W.Frag} {mg : Str → Option Value} {base : Heap}
theorem ok_some (DLawSome : Fn K mg "_law_some" sLawSome ["draw", "cells", "least"]) (DLawTake : Fn K mg "_law_take" sLawTake ["draw", "size"]) (DLawPick : Fn K mg "_law_pick" sLawPick ["draw", "some"]) (b_len : mg "len" = none) (b_tuple : mg "tuple" = none)
    (GLawTake : FnOk P w K mg base CX0 2 DLawTake.f DLawTake.fd ["draw", "size"] spTake) (GLawPick : FnOk P w K mg base CX0 3 DLawPick.f DLawPick.fd ["draw", "some"] (spPick K)) : FnOk P w K mg base CX0 4 DLawSome.f DLawSome.fd ["draw", "cells", "least"] (spSome K) := by
  refine DLawSome.F.ok scLawSome (fun vs H Q E h => ?_) (fun cdv A outer s H vs Q E hr h => ?_)
  · obtain ⟨D, n, a, zs, least, rfl, _⟩ := h
    rfl
  obtain ⟨D, n, a, zs, least, rfl, ha, haD, hasc, l1, l60, hle, hD, q⟩ := h
  refine ⟨_, pss_cons (ps_set (i := 3) scLawSome.nd rfl (.inl rfl) (pe_lst pa_nil))
      (pss_cons (ps_for PassesOwn.never rfl (piListE K (pv 1)) (pg_name (i := 4) scLawSome.nd rfl (.inl rfl))
      (pss_one (ps_if (PW.pt (pw_and (pt_cmpR op_eq (pe_fn DLawTake GLawTake hr (pa_cons (pv 0) (pa_cons pe_int pa_nil))) pe_int (nomark _)) (pw_and1 (pt_cmpR op_lt (pe_callB (lenE K) (by rfl) b_len (by decide +kernel) (pa_cons (pv 3) pa_nil)) pe_int (nomark _)))))
      (pss_one (ps_expr (bmE K PySem.F.plainAttrs_list PySem.F.slot_list_append PySem.F.type_list_append mt_append (pv 3) (pa_cons (pv 4) pa_nil))))
      pss_nil)))
      (pss_one (ps_ret (pe_ifExp (pt_cmpR op_ge (pe_callB (lenE K) (by rfl) b_len (by decide +kernel) (pa_cons (pv 3) pa_nil)) (pv 2) (nomark _)) (pe_callTy call_tuple_of (by rfl) b_tuple (by decide +kernel) (pa_cons (pv 3) pa_nil)) (pe_tup (pa_cons (pe_fn DLawPick GLawPick hr (pa_cons (pv 0) (pa_cons (pv 1) pa_nil))) pa_nil)))))), ?_⟩
  refine ⟨Nat.zero_le _, fun fo nfo => ?_⟩
  have nfD := hD.fresh nfo
  have k0 : Kp [] H (upd H fo (.lst [])) := Kp.laid nfo
  have e0 : (upd H fo (.lst [])) fo = some (.lst []) := upd_same
  have d0 := hD.keep k0
  have ha0 := k0 _ _ (by simp) ha
  have naf : a ≠ fo := fun z => by rw [z, nfo] at ha; cases ha
  obtain ⟨H0, eH⟩ : ∃ H0, upd H fo (.lst []) = H0 := ⟨_, rfl⟩
  rw [eH] at k0 e0 d0 ha0 ⊢
  have haE : a ∉ D.ex := Dr.sub haD
  refine ⟨_, rfl, a, rfl, ⟨_, SqL.of ha0⟩, for_list (K := K) (a := a) (xs := zs.map V.str) (fun j σ H' => ∃ (c4 : Option V) (ys : List Str), σ = [some (.ref D.d), some (.ref a), some (.int least), some (.ref fo), c4] ∧ ys.Sublist (zs.take j) ∧ ys.length ≤ 3 ∧ H' fo = some (.lst (ys.map V.str)) ∧ Kp (fo :: D.ex) H0 H' ∧ DrAt D (n + (zs.length - j) + 1) H') ⟨none, [], rfl, List.Sublist.slnil, by decide, e0, Kp.refl, d0.less (by omega)⟩ (fun j σ H' _ ⟨_, _, _, _, _, _, k, _⟩ => SqL.of (k _ _ (by simp [naf, haE]) ha0)) ?_ ?_⟩
  · rintro j y σ H1 hy ⟨c4, ys, rfl, hsub, h3, hfo, k1, d1⟩
    obtain ⟨z, hz, rfl⟩ : ∃ z, zs[j]? = some z ∧ V.str z = y := by
      rw [List.getElem?_map] at hy
      cases h : zs[j]? with
      | none => rw [h] at hy; cases hy
      | some z => rw [h] at hy; exact ⟨z, rfl, Option.some.inj hy⟩
    have hj := (List.getElem?_eq_some_iff.mp hz).1
    refine ⟨_, rfl, D, n + (zs.length - (j + 1)) + 1, 3, rfl, by decide, by decide, d1.less (by omega), fun i H2 i0 i1 k2 d2 => ⟨rfl, _, rfl, ?_⟩⟩
    have hfo2 := k2 _ _ (Dr.sub nfD) hfo
    have k12 : Kp (fo :: D.ex) H0 H2 := k1.trans (k2.mono fun b hb => List.mem_cons_of_mem _ hb)
    have hsub' : ys.Sublist (zs.take (j + 1)) := by
      rw [List.take_add_one, hz]
      exact hsub.trans (List.sublist_append_left _ _)
    refine ite2 (fun c => ?_) (fun c => ⟨_, ys, rfl, hsub', h3, hfo2, k12, d2⟩)
    refine ⟨_, rfl, fo, _, rfl, .inl (SqL.of hfo2), _, _, rfl, rfl, _, rfl, ite2 (fun c2 => ?_) (fun c2 => ⟨_, ys, rfl, hsub', h3, hfo2, k12, d2⟩)⟩
    have hlt : ys.length < 3 := by
      have := of_decide_eq_true c2
      rw [List.length_map] at this
      omega
    refine ⟨_, rfl, .inl ⟨rfl, _, SqL.of hfo2⟩, _, rfl, fo, _, _, rfl, rfl, hfo2, small1000 (by rw [List.length_map]; omega), ?_⟩
    refine ⟨_, ys ++ [z], rfl, ?_, by rw [List.length_append, List.length_singleton]; omega, by rw [upd_same, List.map_append]; rfl, k12.trans (Kp.put List.mem_cons_self), d2.upd nfD⟩
    rw [List.take_add_one, hz]
    exact hsub.append (List.Sublist.refl _)
  · rintro σ H1 ⟨c4, ys, rfl, hsub, h3, hfo, k1, d1⟩
    rw [List.length_map, List.take_length] at hsub
    rw [List.length_map] at d1
    have k01 : Kp D.ex H H1 := ((k0.mono (by simp)).trans k1).drop nfo
    refine ⟨_, rfl, fo, _, rfl, .inl (SqL.of hfo), _, rfl, _, _, rfl, rfl, _, rfl, ite2 (fun c => ?_) (fun c => ?_)⟩
    · have hge : least ≤ ys.length := by
        have := of_decide_eq_true c
        rw [List.length_map] at this
        omega
      refine ⟨_, rfl, fo, ys.map V.str, rfl, .inl ⟨SqL.of hfo, fun p np => ?_⟩⟩
      exact q ys p _ (fun y hy => hsub.subset hy) (hasc.sublist hsub) hge h3 (k01.none_before np d1) upd_same (k01.trans (Kp.laid np)) ((d1.keep (Kp.laid np)).less (by omega))
    · refine ⟨_, rfl, _, rfl, D, n, a, zs.map V.str, rfl, SqL.of (k1 _ _ (by simp [naf, haE]) ha0), by rw [List.length_map]; omega, by rw [List.length_map]; omega, haE, d1.less (by omega), fun i v H2 hv k2 d2 => ?_⟩
      obtain ⟨z, hz, rfl⟩ : ∃ z, zs[i]? = some z ∧ V.str z = v := by
        rw [List.getElem?_map] at hv
        cases h : zs[i]? with
        | none => rw [h] at hv; cases hv
        | some z => rw [h] at hv; exact ⟨z, rfl, Option.some.inj hv⟩
      refine ⟨by show 1 ≤ sizeLine; decide, fun p np => ?_⟩
      have k02 := k01.trans k2
      exact q [z] p _ (fun y hy => by rw [List.mem_singleton.mp hy]; exact List.mem_of_getElem? hz) (List.pairwise_singleton _ _) (by simpa using hle) (by simp) (k02.none_before np d2) upd_same (k02.trans (Kp.laid np)) (d2.keep (Kp.laid np))
end
end NV
/-! D6 -/
set_option Elab.async false
set_option linter.all false
set_option maxRecDepth 100000
set_option maxHeartbeats 400000
namespace NV
open PySem PySem.Spec PyProof.Rows L2
open C8 (pss_cut)
def bPool : List Str := ["a", "b", "c", "ab", "cell", "zz", "w"]
theorem bPool_nd : bPool.Nodup := by decide +kernel
abbrev sLawCells : Stmt := topS 71
theorem scLawCells : FnScope ["draw", "some", "at"] ["draw"] (defScope sLawCells) := ⟨rfl, rfl, rfl, by decide +kernel, rfl, by decide +kernel, by decide +kernel⟩
def spCells : Sp := fun vs H Q _ => ∃ (D : Dr) (n : Nat), vs = [.ref D.d] ∧ DrAt D (n + 5) H ∧
  ∀ (ys : List Str) (p : Addr) (H' : Hp), Asc ys → (∀ y ∈ ys, y ∈ bPool) → 2 ≤ ys.length → ys.length ≤ 4 → H p = none → H' p = some (.lst (ys.map V.str)) → Kp D.ex H H' → DrAt D n H' → Q (.ref p) H'
section
variable {P : Program} {w : World} {K : PySem.W.Frag} {mg : Str → Option Value} {base : Heap}
theorem ok_cells (DLawCells : Fn K mg "_law_cells" sLawCells ["draw"]) (DLawTake : Fn K mg "_law_take" sLawTake ["draw", "size"]) (b_len : mg "len" = none) (b_sorted : mg "sorted" = none) (b_range : mg "range" = none)
    (GLawTake : FnOk P w K mg base CX0 2 DLawTake.f DLawTake.fd ["draw", "size"] spTake) : FnOk P w K mg base CX0 3 DLawCells.f DLawCells.fd ["draw"] spCells := by
  refine DLawCells.F.ok scLawCells (fun vs H Q E h => ?_) (fun cdv A outer s H vs Q E hr h => ?_)
  · obtain ⟨D, n, rfl, _⟩ := h
    rfl
  obtain ⟨D, n, rfl, hD, q⟩ := h
  refine ⟨_, pss_cons (ps_set (i := 1) scLawCells.nd rfl (.inr rfl) (pe_lst (pa_cons pe_str (pa_cons pe_str (pa_cons pe_str (pa_cons pe_str (pa_cons pe_str (pa_cons pe_str (pa_cons pe_str pa_nil)))))))))
      (pss_one (ps_ret (pe_callB (sortedE K) (by rfl) b_sorted (by decide +kernel) (pa_cons (pe_lc (own := [("at", 2)]) (g := gName 2) (tt := tYes) (by rfl) scLawCells.nd (pi_range1 rfl b_range (pa_cons (pe_op op_add pe_int (pe_fn DLawTake GLawTake hr (pa_cons (pv 0) (pa_cons pe_int pa_nil)))) pa_nil)) (blkOk_by (N := ["draw", "some", "at"]) (sc := defScope sLawCells) (by decide +kernel)) (fun _ _ _ _ _ => (pg_name (i := 2) scLawCells.nd rfl (.inl rfl))) (fun _ _ _ _ _ => pts_nil) (fun _ _ _ _ _ => (bmE K PySem.F.plainAttrs_list PySem.F.slot_list_pop PySem.F.type_list_pop mt_popAt (pv 1) (pa_cons (pe_fn DLawTake GLawTake hr (pa_cons (pv 0) (pa_cons (pe_callB (lenE K) (by rfl) b_len (by decide +kernel) (pa_cons (pv 1) pa_nil)) pa_nil))) pa_nil)))) pa_nil)))), ?_⟩
  refine ⟨by show 7 ≤ sizeLine; decide, fun pl hpl => ?_⟩
  show _
  have hDp := hD.keep (H' := upd H pl (.lst (bPool.map V.str))) (Kp.laid hpl)
  have npl := hD.fresh hpl
  have epl : upd H pl (.lst (bPool.map V.str)) pl = some (.lst (bPool.map V.str)) := upd_same
  have k1 : Kp [] H (upd H pl (.lst (bPool.map V.str))) := Kp.laid hpl
  have eH : upd H pl (.lst [V.str "a", V.str "b", V.str "c", V.str "ab", V.str "cell", V.str "zz", V.str "w"]) = upd H pl (.lst (bPool.map V.str)) := rfl
  rw [eH]
  generalize upd H pl (.lst (bPool.map V.str)) = H1 at hDp epl k1 ⊢
  refine ⟨_, rfl, D, n + 4, 3, rfl, by decide, by decide, hDp.less (by omega), fun i H2 i0 i1 k2 d2 => ?_⟩
  obtain ⟨m, rfl⟩ := Int.eq_ofNat_of_zero_le i0
  have epl2 := k2 _ _ (Dr.sub npl) epl
  have k12 : Kp D.ex H H2 := (k1.mono (by simp)).trans k2
  refine ⟨2, (m : Int), rfl, rfl, 2 + m, by show [V.int (2 + (m : Int))] = [V.int ((2 + m : Nat) : Int)]; rw [Int.natCast_add]; rfl, by omega, by omega, fun C nC => ?_⟩
  have hlen : bPool.length = 7 := rfl
  refine pops (Dr := D) (n := n) (zs := bPool) (pl := pl) (by omega) (by omega) epl2 npl (d2.less (by omega)) nC (fun j H4 rest m Q4 h1 h2 h3 h4 h5 => ?_) (fun H4 got rest hg hp hC k4 d4 => ?_)
  · refine ⟨_, rfl, .inl ⟨rfl, _, SqL.of h1⟩, _, rfl, _, rfl, pl, _, rfl, .inl (SqL.of h1), ?_⟩
    rw [List.length_map]
    exact pop_turn npl h1 h4 (by omega) (by omega) h3 h5
  · have hg64 : got.length < 64 := by omega
    refine ⟨C, got, rfl, SqL.of hC, hg64, fun ys p2 pm srt np2 => ?_⟩
    have k04 : Kp D.ex H H4 := ((k12.mono fun b hb => List.mem_cons_of_mem _ hb).trans k4).drop hpl
    have kk : Kp D.ex H (upd H4 p2 (.lst (ys.map V.str))) := k04.trans (Kp.laid np2)
    refine q ys p2 _ ?_ (fun y hy => hp.mem_iff.mp (List.mem_append_right _ (pm.mem_iff.mp hy))) (by rw [pm.length_eq, hg]; omega) (by rw [pm.length_eq, hg]; omega) (k04.none_before np2 d4) upd_same kk (d4.keep (Kp.laid np2))
    exact sorted_asc srt (pm.nodup_iff.mpr (List.nodup_append.mp (hp.nodup_iff.mpr bPool_nd)).2.1)
end
end NV
/-! D8 -/
set_option Elab.async false
set_option linter.all false
set_option maxRecDepth 100000
set_option maxHeartbeats 600000
namespace NV
open PySem PySem.Spec PyProof.Rows L2
open C8 (pss_cut)
theorem bPool_ok : ∀ y ∈ bPool, cellB y = true := by decide +kernel
/-- the names: a word, then a number of two digits -/
def bPfx : List Str := ["", "w", "q", "end", "0"]
def decS (at_ : Nat) : Str := Str.ofString (toString ((10 + at_ : Nat) : Int))
def bNm (u : Str) (at_ : Nat) : Str := u ++ decS at_
/-- the number in the last two signs -/
def lastTwo (z : Str) : Nat := (z.cps.toList.getD (z.cps.size - 2) 0) * 100 + z.cps.toList.getD (z.cps.size - 1) 0
theorem bNm_two : ∀ u ∈ bPfx, ∀ at_, at_ < 60 → lastTwo (bNm u at_) = (48 + (10 + at_) / 10) * 100 + (48 + (10 + at_) % 10) := by decide +kernel
theorem bNm_ok : ∀ u ∈ bPfx, ∀ at_, at_ < 60 → idB (bNm u at_) = true := by decide +kernel
theorem bNm_inj {u u' : Str} {i j : Nat} (hu : u ∈ bPfx) (hu' : u' ∈ bPfx) (hi : i < 60) (hj : j < 60) (h : bNm u i = bNm u' j) : i = j := by
  have h1 := bNm_two u hu i hi
  have h2 := bNm_two u' hu' j hj
  rw [h] at h1
  omega
theorem dec_len : ∀ at_ : Nat, at_ < 60 → (decS at_).length ≤ 3 := by decide +kernel
theorem pfx_len : ∀ u ∈ bPfx, u.length ≤ 3 := by decide +kernel
/-- drawn names -/
structure Nms (zs : List Str) : Prop where
  nm : ∀ (j : Nat) (z : Str), zs[j]? = some z → j < 60 ∧ ∃ u ∈ bPfx, z = bNm u j
theorem Nms.nd {zs : List Str} (h : Nms zs) : zs.Nodup := List.pairwise_iff_getElem.mpr fun i j hi hj hij he => by
  obtain ⟨_, u1, hu1, e1⟩ := h.nm i _ (List.getElem?_eq_getElem hi)
  obtain ⟨h2, u2, hu2, e2⟩ := h.nm j _ (List.getElem?_eq_getElem hj)
  have := bNm_inj hu1 hu2 (by omega) h2 (e1.symm.trans (he.trans e2))
  omega
theorem Nms.idb {zs : List Str} (h : Nms zs) : ∀ z ∈ zs, idB z = true := fun z hz => by
  obtain ⟨j, hj⟩ := List.getElem?_of_mem hz
  obtain ⟨h1, u, hu, rfl⟩ := h.nm j z hj
  exact bNm_ok u hu j h1
abbrev sLawNames : Stmt := topS 70
theorem scLawNames : FnScope ["draw", "many", "at"] ["draw", "many"] (defScope sLawNames) := ⟨rfl, rfl, rfl, by decide +kernel, rfl, by decide +kernel, by decide +kernel⟩
def spNames : Sp := fun vs H Q _ => ∃ (D : Dr) (n many : Nat), vs = [.ref D.d, .int many] ∧ many ≤ 60 ∧ DrAt D (n + many) H ∧
  ∀ (zs : List Str) (p : Addr) (H' : Hp), Nms zs → zs.length = many → H p = none → H' p = some (.lst (zs.map V.str)) → Kp D.ex H H' → DrAt D n H' → Q (.ref p) H'
section
variable {P : Program} {w : World} {K : PySem.W.Frag} {mg : Str → Option Value} {base : Heap}
theorem ok_names (DLawNames : Fn K mg "_law_names" sLawNames ["draw", "many"]) (DLawPick : Fn K mg "_law_pick" sLawPick ["draw", "some"]) (b_str : mg "str" = none) (b_range : mg "range" = none)
    (GLawPick : FnOk P w K mg base CX0 3 DLawPick.f DLawPick.fd ["draw", "some"] (spPick K)) : FnOk P w K mg base CX0 4 DLawNames.f DLawNames.fd ["draw", "many"] spNames := by
  refine DLawNames.F.ok scLawNames (fun vs H Q E h => ?_) (fun cdv A outer s H vs Q E hr h => ?_)
  · obtain ⟨D, n, many, rfl, _⟩ := h
    rfl
  obtain ⟨D, n, many, rfl, hm, hD, q⟩ := h
  refine ⟨_, pss_one (ps_ret (pe_lc (own := [("at", 2)]) (g := gName 2) (tt := tYes) (by rfl) scLawNames.nd (pi_range1 rfl b_range (pa_cons (pv 1) pa_nil)) (blkOk_by (N := ["draw", "many", "at"]) (sc := defScope sLawNames) (by decide +kernel)) (fun _ _ _ _ _ => (pg_name (i := 2) scLawNames.nd rfl (.inl rfl))) (fun _ _ _ _ _ => pts_nil) (fun _ _ _ _ _ => (pe_op op_add_str (pe_fn DLawPick GLawPick hr (pa_cons (pv 0) (pa_cons (pe_lst (pa_cons pe_str (pa_cons pe_str (pa_cons pe_str (pa_cons pe_str (pa_cons pe_str pa_nil)))))) pa_nil))) (pe_callTy call_str_int (by rfl) b_str (by decide +kernel) (pa_cons (pe_op op_add pe_int (pv 2)) pa_nil)))))), ?_⟩
  refine ⟨_, rfl, many, rfl, by omega, by omega, fun C nC => ?_⟩
  have CD := hD.fresh nC
  refine lc_range (lo := 0) (n := many) (fun j H' => ∃ zs : List Str, H' C = some (.lst (zs.map V.str)) ∧ Nms zs ∧ zs.length = j ∧ Kp (C :: D.ex) H H' ∧ DrAt D (n + (many - j)) H') ⟨[], upd_same, ⟨fun j z h => (by cases h)⟩, rfl, Kp.put List.mem_cons_self, (hD.keep (Kp.laid nC)).less (by omega)⟩ (fun j H' hj h => ?_) (fun H' h => ?_)
  · obtain ⟨zs, h1, h2, h3, h4, h5⟩ := h
    refine ⟨wipe_again, ?_⟩
    refine ⟨_, rfl, by show 5 ≤ sizeLine; decide, fun l nl => ?_⟩
    have kl : Kp [] H' (upd H' l (.lst [V.str "", V.str "w", V.str "q", V.str "end", V.str "0"])) := Kp.laid nl
    have hl : (upd H' l (.lst [V.str "", V.str "w", V.str "q", V.str "end", V.str "0"])) l = some (.lst (bPfx.map V.str)) := upd_same
    have dl := h5.keep kl
    have lD := h5.fresh nl
    have hCl := kl _ _ (by simp) h1
    obtain ⟨Hl, el⟩ : ∃ Hl, upd H' l (.lst [V.str "", V.str "w", V.str "q", V.str "end", V.str "0"]) = Hl := ⟨_, rfl⟩
    rw [el] at kl hl dl hCl ⊢
    refine ⟨D, n + (many - (j + 1)), l, _, rfl, SqL.of hl, by show 0 < 5; decide, by show 5 < 1073741824; decide, Dr.sub lD, dl.less (by omega), fun i v H2 hv k2 d2 => ?_⟩
    obtain ⟨u, hu, rfl⟩ : ∃ u, u ∈ bPfx ∧ V.str u = v := by
      rw [List.getElem?_map] at hv
      cases h : bPfx[i]? with
      | none => rw [h] at hv; cases hv
      | some z => rw [h] at hv; exact ⟨z, List.mem_of_getElem? h, Option.some.inj hv⟩
    have hC2 := k2 _ _ (Dr.sub CD) hCl
    have ej : (10 : Int) + (0 + (j : Int)) = ((10 + j : Nat) : Int) := by omega
    refine ⟨_, rfl, 10, 0 + (j : Int), rfl, rfl, 10 + (0 + (j : Int)), rfl, by rw [ej]; exact digits_small (by omega), u, decS j, rfl, by rw [ej]; rfl, ?_, _, hC2, small1000 (by rw [List.length_map]; omega), zs ++ [bNm u j], by rw [upd_same, List.map_append]; rfl, ⟨fun i' z hz => ?_⟩, by rw [List.length_append, h3]; rfl, (h4.trans ((kl.mono (by simp)).trans (k2.mono fun b hb => List.mem_cons_of_mem _ hb))).trans (Kp.put List.mem_cons_self), d2.upd CD⟩
    · have a1 := pfx_len u hu
      have a2 := dec_len j (by omega)
      rw [sizeLine_eq]
      omega
    · rcases Nat.lt_or_ge i' zs.length with h | h
      · rw [List.getElem?_append_left h] at hz
        exact h2.nm i' z hz
      · rw [List.getElem?_append_right h] at hz
        have : i' - zs.length = 0 := by
          have := (List.getElem?_eq_some_iff.mp hz).1
          rw [List.length_singleton] at this
          omega
        rw [this] at hz
        obtain rfl := Option.some.inj hz
        refine ⟨by omega, u, hu, ?_⟩
        have : i' = j := by omega
        rw [this]
  · obtain ⟨zs, h1, h2, h3, h4, h5⟩ := h
    exact q zs C H' h2 h3 nC h1 (h4.drop nC) (h5.less (by omega))
end
end NV
/-! D9 -/
set_option Elab.async false
set_option linter.all false
set_option maxRecDepth 100000
set_option maxHeartbeats 1000000
namespace NV
open PySem PySem.Spec PyProof.Rows L2
open C8 (pss_cut)
abbrev sLawEntry : Stmt := topS 73
theorem scLawEntry : FnScope ["draw", "name", "cells", "price"] ["draw", "name", "cells"] (defScope sLawEntry) := ⟨rfl, rfl, rfl, by decide +kernel, rfl, by decide +kernel, by decide +kernel⟩
def spEntry : Sp := fun vs H Q _ => ∃ (D : Dr) (n : Nat) (z : Str) (c : Addr) (zs : List Str) (ex : List Addr), vs = [.ref D.d, .str z, .ref c] ∧ idB z = true ∧ H c = some (.lst (zs.map V.str)) ∧ c ∉ D.all ∧ Asc zs ∧ (∀ y ∈ zs, cellB y = true) ∧ 1 ≤ zs.length ∧ zs.length ≤ 4 ∧ (∀ b ∈ D.ex, b ∈ ex) ∧ Live ex H ∧ DrAt D (n + 14) H ∧
  ∀ (e : Ent) (p : Addr) (H' : Hp), e.Ok → e.id = z → (∀ y ∈ e.rs ++ e.ws, y ∈ zs) → H p = none → Rp ex H' e.data (.ref p) → Kp D.ex H H' → DrAt D n H' → Q (.ref p) H'
section
variable {P : Program} {w : World} {K : PySem.W.Frag} {mg : Str → Option Value} {base : Heap}
theorem ok_entry (DLawEntry : Fn K mg "_law_entry" sLawEntry ["draw", "name", "cells"]) (DLawTake : Fn K mg "_law_take" sLawTake ["draw", "size"]) (DLawPick : Fn K mg "_law_pick" sLawPick ["draw", "some"]) (DLawSome : Fn K mg "_law_some" sLawSome ["draw", "cells", "least"])
    (GLawTake : FnOk P w K mg base CX0 2 DLawTake.f DLawTake.fd ["draw", "size"] spTake) (GLawPick : FnOk P w K mg base CX0 3 DLawPick.f DLawPick.fd ["draw", "some"] (spPick K)) (GLawSome : FnOk P w K mg base CX0 4 DLawSome.f DLawSome.fd ["draw", "cells", "least"] (spSome K)) : FnOk P w K mg base CX0 5 DLawEntry.f DLawEntry.fd ["draw", "name", "cells"] spEntry := by
  refine DLawEntry.F.ok scLawEntry (fun vs H Q E h => ?_) (fun cdv A outer s H vs Q E hr h => ?_)
  · obtain ⟨D, n, z, c, zs, ex, rfl, _⟩ := h
    rfl
  obtain ⟨D, n, z, c, zs, ex, rfl, hz, hc, hcD, hasc, hcell, l1, l4, hex, hlive, hD, q⟩ := h
  refine ⟨_, pss_cons (ps_if (pt_cmpR op_eq (pe_fn DLawTake GLawTake hr (pa_cons (pv 0) (pa_cons pe_int pa_nil))) pe_int (nomark _))
      (pss_one (ps_ret (pe_tup (pa_cons pe_str (pa_cons (pv 1) (pa_cons (pe_fn DLawSome GLawSome hr (pa_cons (pv 0) (pa_cons (pv 2) (pa_cons pe_int pa_nil)))) pa_nil))))))
      pss_nil)
      (pss_cons (ps_set (i := 3) scLawEntry.nd rfl (.inl rfl) (pe_fn DLawPick GLawPick hr (pa_cons (pv 0) (pa_cons (pe_lst (pa_cons pe_int (pa_cons pe_int (pa_cons pe_int (pa_cons pe_int (pa_cons (pe_op op_add pe_int (pe_fn DLawTake GLawTake hr (pa_cons (pv 0) (pa_cons pe_int pa_nil)))) (pa_cons (pe_op op_add pe_int (pe_fn DLawTake GLawTake hr (pa_cons (pv 0) (pa_cons pe_int pa_nil)))) (pa_cons pe_non pa_nil)))))))) pa_nil))))
      (pss_one (ps_ret (pe_tup (pa_cons pe_str (pa_cons (pv 1) (pa_cons (pe_fn DLawSome GLawSome hr (pa_cons (pv 0) (pa_cons (pv 2) (pa_cons pe_int pa_nil)))) (pa_cons (pe_fn DLawSome GLawSome hr (pa_cons (pv 0) (pa_cons (pv 2) (pa_cons pe_int pa_nil)))) (pa_cons (pv 3) pa_nil))))))))), ?_⟩
  have hcE : c ∉ D.ex := Dr.sub hcD
  refine ⟨_, rfl, D, n + 13, 5, rfl, by decide, by decide, hD.less (by omega), fun t H1 t0 t1 k1 d1 => ⟨rfl, _, rfl, ite2 (fun cc => ?_) (fun cc => ?_)⟩⟩
  · -- a query
    have hc1 := k1 _ _ hcE hc
    have lv1 := hlive.keep k1 d1
    refine ⟨_, rfl, _, rfl, _, rfl, D, n, c, zs, 1, rfl, hc1, hcD, hasc, l1, by omega, by decide, d1.less (by omega), fun ys p H2 hys hya hyl hyh np ep k2 d2 => ?_⟩
    have lv2 := lv1.keep k2 d2
    refine ⟨by show 3 ≤ sizeLine; decide, fun a na => ?_⟩
    have hco : CellsOk 1 ys := ⟨hya, fun y hy => hcell y (hys y hy), by omega, hyh⟩
    refine q (.qu z ys) a _ ⟨hz, hco⟩ rfl (fun y hy => hys y ((List.mem_append.mp hy).elim id fun h => nomatch h)) ((k1.trans k2).none_before na d2) ⟨a, _, rfl, lv2.fresh na, upd_same, _, _, rfl, rfl, _, _, rfl, rfl, _, _, rfl, ?_, rfl⟩ ((k1.trans k2).trans (Kp.laid na)) (d2.keep (Kp.laid na))
    exact strs_rp (lv1.fresh np) (by rw [upd_ne (ne_of_none ep na)]; exact ep)
  · -- a write
    refine ⟨_, rfl, _, rfl, D, n + 12, 9, rfl, by decide, by decide, d1.less (by omega), fun i2 H2 a0 a1 k2 d2 => ?_⟩
    refine ⟨1, i2, rfl, rfl, _, rfl, D, n + 11, 99, rfl, by decide, by decide, d2.less (by omega), fun i3 H3 b0 b1 k3 d3 => ?_⟩
    refine ⟨1, i3, rfl, rfl, by show 7 ≤ sizeLine; decide, fun l nl => ?_⟩
    have kl : Kp [] H3 (upd H3 l (.lst [V.int 1, V.int 1, V.int 2, V.int 3, V.int (1 + i2), V.int (1 + i3), V.non])) := Kp.laid nl
    have dl := d3.keep kl
    refine ⟨D, n + 10, l, _, rfl, SqL.of upd_same, by show 0 < 7; decide, by show 7 < 1073741824; decide, Dr.sub (d3.fresh nl), dl.less (by omega), fun j v H4 hj k4 d4 => ?_⟩
    obtain ⟨pr, rfl, hpr⟩ : ∃ pr : Option Int, v = prV pr ∧ PrOk pr := by
      match j, hj with
      | 0, h => exact ⟨some 1, (Option.some.inj h).symm, fun i h => by cases h; decide⟩
      | 1, h => exact ⟨some 1, (Option.some.inj h).symm, fun i h => by cases h; decide⟩
      | 2, h => exact ⟨some 2, (Option.some.inj h).symm, fun i h => by cases h; decide⟩
      | 3, h => exact ⟨some 3, (Option.some.inj h).symm, fun i h => by cases h; decide⟩
      | 4, h => exact ⟨some (1 + i2), (Option.some.inj h).symm, fun i h => by cases h; omega⟩
      | 5, h => exact ⟨some (1 + i3), (Option.some.inj h).symm, fun i h => by cases h; omega⟩
      | 6, h => exact ⟨none, (Option.some.inj h).symm, fun i h => by cases h⟩
      | m + 7, h => cases h
    have k04 : Kp D.ex H H4 := k1.trans (k2.trans (k3.trans ((kl.mono (by simp)).trans k4)))
    have lv4 := hlive.keep k04 d4
    refine ⟨_, rfl, _, rfl, _, rfl, D, n + 5, c, zs, 0, rfl, k04 _ _ hcE hc, hcD, hasc, l1, by omega, by decide, d4.less (by omega), fun rs p1 H5 hrs hra hrl hrh np1 ep1 k5 d5 => ?_⟩
    have k05 := k04.trans k5
    have lv5 := lv4.keep k5 d5
    refine ⟨_, rfl, _, rfl, D, n, c, zs, 1, rfl, k05 _ _ hcE hc, hcD, hasc, l1, by omega, by decide, d5.less (by omega), fun ws p2 H6 hws hwa hwl hwh np2 ep2 k6 d6 => ?_⟩
    have k06 := k05.trans k6
    have lv6 := lv5.keep k6 d6
    refine ⟨_, rfl, by show 5 ≤ sizeLine; decide, fun a na => ?_⟩
    have hcr : CellsOk 0 rs := ⟨hra, fun y hy => hcell y (hrs y hy), Nat.zero_le _, hrh⟩
    have hcw : CellsOk 1 ws := ⟨hwa, fun y hy => hcell y (hws y hy), hwl, hwh⟩
    have p1ex := lv4.fresh np1
    have e1' := k6 _ _ (fun h => p1ex (hex _ h)) ep1
    refine q (.wr z rs ws pr) a _ ⟨hz, hcr, hcw, hpr⟩ rfl (fun y hy => (List.mem_append.mp hy).elim (hrs y) (hws y)) (k06.none_before na d6) ⟨a, _, rfl, lv6.fresh na, upd_same, _, _, rfl, rfl, _, _, rfl, rfl, _, _, rfl, ?_, _, _, rfl, ?_, _, _, rfl, prV_rp pr, rfl⟩ (k06.trans (Kp.laid na)) (d6.keep (Kp.laid na))
    · exact strs_rp p1ex (by rw [upd_ne (ne_of_none e1' na)]; exact e1')
    · exact strs_rp (lv5.fresh np2) (by rw [upd_ne (ne_of_none ep2 na)]; exact ep2)
end
end NV
/-! Whole -/
set_option Elab.async false
set_option linter.all false
set_option maxRecDepth 100000
set_option maxHeartbeats 600000
/-! [_law_entry(draw, name, cells) for name in names] -/
namespace NV
open PySem PySem.Spec PyProof.Rows L2
theorem seq_asg {te : TE} {g : TG} {rest : TS} {D : Ends} {σ : L2.St} {H : Hp} (h : te σ H fun v H1 => g v σ H1 fun σ2 H2 => rest D σ2 H2) : tSeq (tAsg te g) rest D σ H := h
theorem cb_one {R : List V → Hp → VK → Prop} {te : TE} {σ : L2.St} {H : Hp} {Q : VK} (h : te σ H fun v H1 => R [v] H1 Q) : tCB R (tCons te tNil) σ H Q := h
theorem whole_lc {K : PySem.W.Frag} {σ : L2.St} {H : Hp} {Q : VK} {D : Dr} {m : Nat} {p c : Addr} {zs cs : List Str} {jn jx jc jd : Nat} {E : XK} {ex : List Addr} (sn : σ[jn]? = some (some (.ref p))) (sd : ∀ z, ((wipe σ [jx]).set jx (some z))[jd]? = some (some (.ref D.d))) (sx : ∀ z : V, ((wipe σ [jx]).set jx (some z))[jx]? = some (some z)) (sc : ∀ z, ((wipe σ [jx]).set jx (some z))[jc]? = some (some (.ref c)))
    (sw : ∀ z, wipe ((wipe σ [jx]).set jx (some z)) [jx] = wipe σ [jx])
    (hp : H p = some (.lst (zs.map V.str))) (np : p ∉ D.all) (nms : Nms zs) (h60 : zs.length ≤ 60) (hc : H c = some (.lst (cs.map V.str))) (nc : c ∉ D.all) (asc : Asc cs) (cok : ∀ y ∈ cs, cellB y = true) (c1 : 1 ≤ cs.length) (c4 : cs.length ≤ 4) (dx : ∀ b ∈ D.ex, b ∈ ex) (lv : Live ex H) (dr : DrAt D (m + 14 * zs.length) H)
    (q : ∀ (C : Addr) (H' : Hp) (es : List Ent) (xs : List V), LogOk es → es.map Ent.id = zs → (∀ e ∈ es, ∀ y ∈ e.rs ++ e.ws, y ∈ cs) → H' C = some (.lst xs) → RpAll ex H' (es.map Ent.data) xs → H C = none → Kp D.ex H H' → DrAt D m H' → Q (.ref C) H') :
    tLc (iList K (tVar jn)) (gName jx) tYes (tCall spEntry [] E (tCons (tVar jd) (tCons (tVar jx) (tCons (tVar jc) tNil)))) [jx] σ H Q := by
  refine ⟨_, sn, p, rfl, ⟨_, SqL.of hp⟩, fun C nC => ?_⟩
  have line : (100000 : Nat) < sizeLine := by decide
  have kC : Kp [] H (upd H C (.lst [])) := Kp.laid nC
  have nCD := dr.fresh nC
  have pC : p ≠ C := fun z => by rw [z, nC] at hp; cases hp
  have cC : c ≠ C := fun z => by rw [z, nC] at hc; cases hc
  have npx := Dr.sub np
  have ncx := Dr.sub nc
  have back : ∀ {H' : Hp}, Kp (C :: D.ex) (upd H C (.lst [])) H' → Kp D.ex H H' := fun k => Kp.drop ((kC.mono (by simp)).trans k) nC
  have hpk : ∀ {H' : Hp}, Kp (C :: D.ex) (upd H C (.lst [])) H' → H' p = some (.lst (zs.map V.str)) := fun k => back k _ _ npx hp
  have zi : ∀ i, i < zs.length → ∃ z, zs[i]? = some z := fun i hi => ⟨_, List.getElem?_eq_getElem hi⟩
  refine lc_inv (J := Itl K p) zs.length (fun j H' => ∃ (es : List Ent) (xs : List V), Kp (C :: D.ex) (upd H C (.lst [])) H' ∧ DrAt D (m + 14 * (zs.length - j)) H' ∧ H' C = some (.lst xs) ∧ RpAll (C :: ex) H' (es.map Ent.data) xs ∧ es.map Ent.id = zs.take j ∧ xs.length = j ∧ (∀ e ∈ es, e.Ok) ∧ ∀ e ∈ es, ∀ y ∈ e.rs ++ e.ws, y ∈ cs)
    ⟨[], [], Kp.refl, (dr.keep kC).less (by omega), upd_same, rfl, rfl, rfl, (fun e he => by cases he), fun e he => by cases he⟩ ?_ (fun i H' hi ⟨_, _, k, _⟩ => (zi i hi).elim fun z hz => ⟨_, .str z, SqL.of (hpk k), by rw [List.getElem?_map, hz]; rfl⟩) ?_
  · rintro H' ⟨es, xs, k, d, hC, hr, hid, hlen, hok, hcs⟩
    refine ⟨⟨_, SqL.of (hpk k), by rw [List.length_map]; exact Nat.le_refl _⟩, ?_⟩
    rw [List.take_length] at hid
    exact q C H' es xs ⟨hok, by rw [hid]; exact nms.nd⟩ hid hcs hC (RpAll.less (fun b hb => List.mem_cons_of_mem _ hb) _ _ hr) nC (back k) (d.less (by omega))
  · rintro i Hz x H1 hi ⟨es, xs, k, d, hC, hr, hid, hlen, hok, hcs⟩ ⟨rfl, hy⟩
    obtain ⟨z, hz⟩ := zi i hi
    have hx := hy _ (SqL.of (hpk k))
    rw [List.getElem?_map, hz] at hx
    obtain rfl : V.str z = x := Option.some.inj hx
    have hzm := List.mem_of_getElem? hz
    refine ⟨sw _, yes_on ?_⟩
    have lvC : Live (C :: ex) H1 := fun b hb h0 => by
      rcases List.mem_cons.mp hb with e | e
      · rw [e, hC] at h0; cases h0
      · by_cases hbd : b ∈ D.ex
        · exact d.live b hbd h0
        · have hb1 := lv b e
          cases hH : H b with
          | none => exact hb1 hH
          | some u => rw [back k b u hbd hH] at h0; cases h0
    refine ⟨_, sd _, _, sx _, _, sc _, D, m + 14 * (zs.length - (i + 1)), z, c, cs, C :: ex, rfl, nms.idb z hzm, back k _ _ ncx hc, nc, asc, cok, c1, c4, (fun b hb => List.mem_cons_of_mem _ (dx b hb)), lvC, d.less (by omega), fun e pe H2 eok eid ecs npe re k2 d2 => ?_⟩
    have hC2 := k2 _ _ (Dr.sub nCD) hC
    have hr2 := RpAll.keep (k2.mono fun b hb => List.mem_cons_of_mem _ (dx b hb)) _ _ hr
    have kF : Kp (C :: ex) H2 (upd H2 C (.lst (xs ++ [.ref pe]))) := Kp.put (by simp)
    refine ⟨xs, hC2, by omega, es ++ [e], xs ++ [.ref pe], (k.trans (k2.mono fun b hb => List.mem_cons_of_mem _ hb)).trans (Kp.put (by simp)), d2.upd nCD, upd_same, ?_, ?_, ?_, ?_, ?_⟩
    · rw [List.map_append]
      exact (RpAll.keep kF _ _ hr2).app (RpAll.one (Rp.keep kF _ _ re))
    · rw [List.map_append, hid, List.take_add_one, hz]
      show zs.take i ++ [e.id] = _
      rw [eid]
      rfl
    · rw [List.length_append]; simp; omega
    · intro u hu
      rcases List.mem_append.mp hu with h | h
      · exact hok u h
      · rw [List.mem_singleton.mp h]; exact eok
    · intro u hu
      rcases List.mem_append.mp hu with h | h
      · exact hcs u h
      · rw [List.mem_singleton.mp h]; exact ecs
end NV
/-! Whole2 -/
set_option Elab.async false
set_option linter.all false
set_option maxRecDepth 100000
set_option maxHeartbeats 600000
/-! [_law_entry(draw, name, cells) for name in a list that a call gives] -/
namespace NV
open PySem PySem.Spec PyProof.Rows L2
theorem lc_te {K : PySem.W.Frag} {te t : TE} {g : TG} {tt : TT} {own : List Nat} {σ : L2.St} {H : Hp} {Q : VK} (h : te σ H fun v H1 => tLc (iList K (tC v)) g tt t own σ H1 Q) : tLc (iList K te) g tt t own σ H Q := h
theorem whole_lc2 {K : PySem.W.Frag} {σ : L2.St} {H : Hp} {Q : VK} {D : Dr} {m : Nat} {p c : Addr} {zs cs : List Str} {jx jc jd : Nat} {E : XK} {ex : List Addr} (sd : ∀ z, ((wipe σ [jx]).set jx (some z))[jd]? = some (some (.ref D.d))) (sx : ∀ z : V, ((wipe σ [jx]).set jx (some z))[jx]? = some (some z)) (sc : ∀ z, ((wipe σ [jx]).set jx (some z))[jc]? = some (some (.ref c)))
    (sw : ∀ z, wipe ((wipe σ [jx]).set jx (some z)) [jx] = wipe σ [jx])
    (hp : H p = some (.lst (zs.map V.str))) (np : p ∉ D.all) (nms : Nms zs) (h60 : zs.length ≤ 60) (hc : H c = some (.lst (cs.map V.str))) (nc : c ∉ D.all) (asc : Asc cs) (cok : ∀ y ∈ cs, cellB y = true) (c1 : 1 ≤ cs.length) (c4 : cs.length ≤ 4) (dx : ∀ b ∈ D.ex, b ∈ ex) (lv : Live ex H) (dr : DrAt D (m + 14 * zs.length) H)
    (q : ∀ (C : Addr) (H' : Hp) (es : List Ent) (xs : List V), LogOk es → es.map Ent.id = zs → (∀ e ∈ es, ∀ y ∈ e.rs ++ e.ws, y ∈ cs) → H' C = some (.lst xs) → RpAll ex H' (es.map Ent.data) xs → H C = none → Kp D.ex H H' → DrAt D m H' → Q (.ref C) H') :
    tLc (iList K (tC (.ref p))) (gName jx) tYes (tCall spEntry [] E (tCons (tVar jd) (tCons (tVar jx) (tCons (tVar jc) tNil)))) [jx] σ H Q := by
  refine ⟨p, rfl, ⟨_, SqL.of hp⟩, fun C nC => ?_⟩
  have line : (100000 : Nat) < sizeLine := by decide
  have kC : Kp [] H (upd H C (.lst [])) := Kp.laid nC
  have nCD := dr.fresh nC
  have pC : p ≠ C := fun z => by rw [z, nC] at hp; cases hp
  have cC : c ≠ C := fun z => by rw [z, nC] at hc; cases hc
  have npx := Dr.sub np
  have ncx := Dr.sub nc
  have back : ∀ {H' : Hp}, Kp (C :: D.ex) (upd H C (.lst [])) H' → Kp D.ex H H' := fun k => Kp.drop ((kC.mono (by simp)).trans k) nC
  have hpk : ∀ {H' : Hp}, Kp (C :: D.ex) (upd H C (.lst [])) H' → H' p = some (.lst (zs.map V.str)) := fun k => back k _ _ npx hp
  have zi : ∀ i, i < zs.length → ∃ z, zs[i]? = some z := fun i hi => ⟨_, List.getElem?_eq_getElem hi⟩
  refine lc_inv (J := Itl K p) zs.length (fun j H' => ∃ (es : List Ent) (xs : List V), Kp (C :: D.ex) (upd H C (.lst [])) H' ∧ DrAt D (m + 14 * (zs.length - j)) H' ∧ H' C = some (.lst xs) ∧ RpAll (C :: ex) H' (es.map Ent.data) xs ∧ es.map Ent.id = zs.take j ∧ xs.length = j ∧ (∀ e ∈ es, e.Ok) ∧ ∀ e ∈ es, ∀ y ∈ e.rs ++ e.ws, y ∈ cs)
    ⟨[], [], Kp.refl, (dr.keep kC).less (by omega), upd_same, rfl, rfl, rfl, (fun e he => by cases he), fun e he => by cases he⟩ ?_ (fun i H' hi ⟨_, _, k, _⟩ => (zi i hi).elim fun z hz => ⟨_, .str z, SqL.of (hpk k), by rw [List.getElem?_map, hz]; rfl⟩) ?_
  · rintro H' ⟨es, xs, k, d, hC, hr, hid, hlen, hok, hcs⟩
    refine ⟨⟨_, SqL.of (hpk k), by rw [List.length_map]; exact Nat.le_refl _⟩, ?_⟩
    rw [List.take_length] at hid
    exact q C H' es xs ⟨hok, by rw [hid]; exact nms.nd⟩ hid hcs hC (RpAll.less (fun b hb => List.mem_cons_of_mem _ hb) _ _ hr) nC (back k) (d.less (by omega))
  · rintro i Hz x H1 hi ⟨es, xs, k, d, hC, hr, hid, hlen, hok, hcs⟩ ⟨rfl, hy⟩
    obtain ⟨z, hz⟩ := zi i hi
    have hx := hy _ (SqL.of (hpk k))
    rw [List.getElem?_map, hz] at hx
    obtain rfl : V.str z = x := Option.some.inj hx
    have hzm := List.mem_of_getElem? hz
    refine ⟨sw _, yes_on ?_⟩
    have lvC : Live (C :: ex) H1 := fun b hb h0 => by
      rcases List.mem_cons.mp hb with e | e
      · rw [e, hC] at h0; cases h0
      · by_cases hbd : b ∈ D.ex
        · exact d.live b hbd h0
        · have hb1 := lv b e
          cases hH : H b with
          | none => exact hb1 hH
          | some u => rw [back k b u hbd hH] at h0; cases h0
    refine ⟨_, sd _, _, sx _, _, sc _, D, m + 14 * (zs.length - (i + 1)), z, c, cs, C :: ex, rfl, nms.idb z hzm, back k _ _ ncx hc, nc, asc, cok, c1, c4, (fun b hb => List.mem_cons_of_mem _ (dx b hb)), lvC, d.less (by omega), fun e pe H2 eok eid ecs npe re k2 d2 => ?_⟩
    have hC2 := k2 _ _ (Dr.sub nCD) hC
    have hr2 := RpAll.keep (k2.mono fun b hb => List.mem_cons_of_mem _ (dx b hb)) _ _ hr
    have kF : Kp (C :: ex) H2 (upd H2 C (.lst (xs ++ [.ref pe]))) := Kp.put (by simp)
    refine ⟨xs, hC2, by omega, es ++ [e], xs ++ [.ref pe], (k.trans (k2.mono fun b hb => List.mem_cons_of_mem _ hb)).trans (Kp.put (by simp)), d2.upd nCD, upd_same, ?_, ?_, ?_, ?_, ?_⟩
    · rw [List.map_append]
      exact (RpAll.keep kF _ _ hr2).app (RpAll.one (Rp.keep kF _ _ re))
    · rw [List.map_append, hid, List.take_add_one, hz]
      show zs.take i ++ [e.id] = _
      rw [eid]
      rfl
    · rw [List.length_append]; simp; omega
    · intro u hu
      rcases List.mem_append.mp hu with h | h
      · exact hok u h
      · rw [List.mem_singleton.mp h]; exact eok
    · intro u hu
      rcases List.mem_append.mp hu with h | h
      · exact hcs u h
      · rw [List.mem_singleton.mp h]; exact ecs
end NV
/-! Tri -/
set_option Elab.async false
set_option linter.all false
set_option maxRecDepth 100000
set_option maxHeartbeats 600000
/-! ways in order: the order is total; the least of many ways is one -/
namespace NV
open PySem PySem.Spec PyProof.Rows L2
structure STO {α : Type} (lt : α → α → Bool) : Prop where
  irr : ∀ a, lt a a = false
  tri : ∀ a b, lt a b = false → lt b a = false → a = b
  trans : ∀ a b c, lt a b = true → lt b c = true → lt a c = true
theorem STO.le {α : Type} {lt : α → α → Bool} (h : STO lt) {a b c : α} (h1 : lt b a = false) (h2 : lt c b = false) : lt c a = false := by
  cases h3 : lt c a with
  | false => rfl
  | true =>
    cases h4 : lt a b with
    | true => rw [h.trans _ _ _ h3 h4] at h2; exact h2
    | false => rw [h.tri a b h4 h1] at h3; rw [h3] at h2; exact h2
theorem STO.asym {α : Type} {lt : α → α → Bool} (h : STO lt) {a b : α} (h1 : lt a b = true) : lt b a = false := by
  cases h2 : lt b a with
  | false => rfl
  | true =>
    have := h.trans _ _ _ h1 h2
    rw [h.irr] at this
    cases this
theorem sto_int : STO (fun a b : Int => decide (a < b)) where
  irr a := decide_eq_false (Int.lt_irrefl a)
  tri a b h1 h2 := by
    have h1 := of_decide_eq_false h1
    have h2 := of_decide_eq_false h2
    omega
  trans a b c h1 h2 := by
    have h1 := of_decide_eq_true h1
    have h2 := of_decide_eq_true h2
    exact decide_eq_true (by omega)
theorem str_ext {a b : Str} (h : a.cps.toList = b.cps.toList) : a = b := by
  cases a with
  | mk x =>
    cases b with
    | mk y =>
      have : x = y := Array.toList_inj.mp h
      rw [this]
def strLt (a b : Str) : Bool := decide (a.cps.toList < b.cps.toList)
theorem sto_str : STO strLt where
  irr a := decide_eq_false (List.lt_irrefl _)
  tri a b h1 h2 := str_ext (List.le_antisymm (List.not_lt.mp (of_decide_eq_false h2)) (List.not_lt.mp (of_decide_eq_false h1)))
  trans a b c h1 h2 := decide_eq_true (List.lt_trans (of_decide_eq_true h1) (of_decide_eq_true h2))
def ltP {α β : Type} [DecidableEq α] (l : α → α → Bool) (m : β → β → Bool) (p q : α × β) : Bool := if p.1 = q.1 then m p.2 q.2 else l p.1 q.1
theorem STO.pair {α β : Type} [DecidableEq α] {l : α → α → Bool} {m : β → β → Bool} (hl : STO l) (hm : STO m) : STO (ltP l m) where
  irr a := by unfold ltP; rw [if_pos rfl]; exact hm.irr _
  tri a b h1 h2 := by
    unfold ltP at h1 h2
    by_cases e : a.1 = b.1
    · rw [if_pos e] at h1
      rw [if_pos e.symm] at h2
      exact Prod.ext e (hm.tri _ _ h1 h2)
    · rw [if_neg e] at h1
      rw [if_neg (fun z => e z.symm)] at h2
      exact absurd (hl.tri _ _ h1 h2) e
  trans a b c h1 h2 := by
    unfold ltP at h1 h2 ⊢
    by_cases e : a.1 = b.1
    · rw [if_pos e] at h1
      by_cases e2 : b.1 = c.1
      · rw [if_pos e2] at h2
        rw [if_pos (e.trans e2)]
        exact hm.trans _ _ _ h1 h2
      · rw [if_neg e2] at h2
        rw [if_neg (fun z => e2 (e.symm.trans z)), e]
        exact h2
    · rw [if_neg e] at h1
      by_cases e2 : b.1 = c.1
      · rw [if_neg (fun z => e (z.trans e2.symm)), ← e2]
        exact h1
      · rw [if_neg e2] at h2
        have h3 := hl.trans _ _ _ h1 h2
        rw [if_neg]
        · exact h3
        · intro z
          rw [z, hl.irr] at h3
          cases h3
def ltL {α : Type} [DecidableEq α] (l : α → α → Bool) : List α → List α → Bool
  | [], [] => false
  | [], _ :: _ => true
  | _ :: _, [] => false
  | x :: xs, y :: ys => if x = y then ltL l xs ys else l x y
theorem ltL_irr {α : Type} [DecidableEq α] {l : α → α → Bool} : ∀ a : List α, ltL l a a = false
  | [] => rfl
  | x :: xs => by unfold ltL; rw [if_pos rfl]; exact ltL_irr xs
theorem ltL_tri {α : Type} [DecidableEq α] {l : α → α → Bool} (hl : STO l) : ∀ a b : List α, ltL l a b = false → ltL l b a = false → a = b
  | [], [], _, _ => rfl
  | [], _ :: _, h, _ => by cases h
  | _ :: _, [], _, h => by cases h
  | x :: xs, y :: ys, h1, h2 => by
    unfold ltL at h1 h2
    by_cases e : x = y
    · rw [if_pos e] at h1
      rw [if_pos e.symm] at h2
      rw [e, ltL_tri hl xs ys h1 h2]
    · rw [if_neg e] at h1
      rw [if_neg (fun z => e z.symm)] at h2
      exact absurd (hl.tri _ _ h1 h2) e
theorem ltL_trans {α : Type} [DecidableEq α] {l : α → α → Bool} (hl : STO l) : ∀ a b c : List α, ltL l a b = true → ltL l b c = true → ltL l a c = true
  | [], [], _, h, _ => by cases h
  | [], _ :: _, [], _, h => by cases h
  | [], _ :: _, _ :: _, _, _ => rfl
  | _ :: _, [], _, h, _ => by cases h
  | _ :: _, _ :: _, [], _, h => by cases h
  | x :: xs, y :: ys, z :: zs, h1, h2 => by
    unfold ltL at h1 h2 ⊢
    by_cases e : x = y
    · rw [if_pos e] at h1
      by_cases e2 : y = z
      · rw [if_pos e2] at h2
        rw [if_pos (e.trans e2)]
        exact ltL_trans hl _ _ _ h1 h2
      · rw [if_neg e2] at h2
        rw [if_neg (fun t => e2 (e.symm.trans t)), e]
        exact h2
    · rw [if_neg e] at h1
      by_cases e2 : y = z
      · rw [if_neg (fun t => e (t.trans e2.symm)), ← e2]
        exact h1
      · rw [if_neg e2] at h2
        have h3 := hl.trans _ _ _ h1 h2
        rw [if_neg]
        · exact h3
        · intro t
          rw [t, hl.irr] at h3
          cases h3
theorem STO.list {α : Type} [DecidableEq α] {l : α → α → Bool} (hl : STO l) : STO (ltL l) := ⟨ltL_irr, ltL_tri hl, ltL_trans hl⟩
def wLt : Int × Path → Int × Path → Bool := ltP (fun a b : Int => decide (a < b)) (ltL (ltP strLt strLt))
theorem sto_way : STO wLt := sto_int.pair (sto_str.pair sto_str).list
theorem ltL_eq : ∀ p q : Path, PySem.W.listLt p q = ltL (ltP strLt strLt) p q
  | [], [] => rfl
  | [], _ :: _ => rfl
  | _ :: _, [] => rfl
  | x :: xs, y :: ys => by
    unfold PySem.W.listLt ltL
    rw [ltL_eq xs ys]
    rfl
theorem wayLt_eq (x y : Int × Path) : wayLt x y = wLt x y := by
  have h := PySem.W.DatumOrd.lt_eq (α := Int × PySem.W.Tup (Str × Str)) (x.1, ⟨x.2⟩) (y.1, ⟨y.2⟩)
  have e : ∀ z : Int × Path, PySem.W.Datum.toD (α := Int × PySem.W.Tup (Str × Str)) (z.1, ⟨z.2⟩) = someD z := fun z => rfl
  rw [e, e] at h
  unfold wayLt
  rw [h]
  show (if x.1 = y.1 then PySem.W.listLt x.2 y.2 else decide (x.1 < y.1)) = _
  rw [ltL_eq]
  rfl
/-- a further step ahead keeps the order -/
theorem wLt_step (s : Str × Str) (a b : Int) (p q : Path) (n : Int) : wLt (n + a, s :: p) (n + b, s :: q) = wLt (a, p) (b, q) := by
  unfold wLt ltP
  dsimp only
  by_cases e : a = b
  · rw [if_pos e, if_pos (by rw [e]), ltL, if_pos rfl]
  · rw [if_neg e, if_neg (by omega)]
    exact decide_eq_decide.mpr (by omega)
theorem wLt_add (a b : Int) (p q : Path) (n : Int) : wLt (a + n, p) (b + n, q) = wLt (a, p) (b, q) := by
  unfold wLt ltP
  dsimp only
  by_cases e : a = b
  · rw [if_pos e, if_pos (by rw [e])]
  · rw [if_neg e, if_neg (by omega)]
    exact decide_eq_decide.mpr (by omega)
/-! ### the least -/
/-- w is the least of S; none where there is none -/
def Least (S : Int × Path → Prop) : Way → Prop
  | none => ∀ x, ¬ S x
  | some m => S m ∧ ∀ x, S x → wLt x m = false
theorem Least.one {S : Int × Path → Prop} {w v : Way} (h : Least S w) (g : Least S v) : w = v := by
  match w, v, h, g with
  | none, none, _, _ => rfl
  | none, some y, h, g => exact absurd g.1 (h y)
  | some x, none, h, g => exact absurd h.1 (g x)
  | some x, some y, h, g => rw [sto_way.tri x y (g.2 x h.1) (h.2 y g.1)]
theorem Least.same {S T : Int × Path → Prop} {w : Way} (h : Least S w) (e : ∀ x, S x ↔ T x) : Least T w := by
  match w, h with
  | none, h => exact fun x hx => h x ((e x).mpr hx)
  | some m, h => exact ⟨(e m).mp h.1, fun x hx => h.2 x ((e x).mpr hx)⟩
/-- fewer, but each as good as one of the others -/
theorem Least.few {S T : Int × Path → Prop} {w : Way} (h : Least S w) (sub : ∀ x, S x → T x) (good : ∀ x, T x → ∃ y, S y ∧ wLt x y = false) : Least T w := by
  match w, h with
  | none, h => exact fun x hx => (good x hx).elim fun y hy => h y hy.1
  | some m, h =>
    refine ⟨sub m h.1, fun x hx => ?_⟩
    obtain ⟨y, hy, hxy⟩ := good x hx
    exact sto_way.le (h.2 y hy) hxy
theorem least_better {S : Int × Path → Prop} {w : Way} (x : Int × Path) (h : Least S w) : Least (fun y => y = x ∨ S y) (better x w) := by
  match w, h with
  | none, h =>
    refine ⟨.inl rfl, fun y hy => ?_⟩
    rcases hy with rfl | hy
    · exact sto_way.irr _
    · exact absurd hy (h y)
  | some m, h =>
    show Least _ (if wayLt x m = true then some x else some m)
    rw [wayLt_eq]
    cases hl : wLt x m with
    | true =>
      refine ⟨.inl rfl, fun y hy => ?_⟩
      rcases hy with rfl | hy
      · exact sto_way.irr _
      · exact sto_way.le (sto_way.asym hl) (h.2 y hy)
    | false =>
      refine ⟨.inr h.1, fun y hy => ?_⟩
      rcases hy with rfl | hy
      · exact hl
      · exact h.2 y hy
theorem least_fold : ∀ (ys : List (Int × Path)) (y : Int × Path), Least (· ∈ y :: ys) (some (ys.foldl (fun a y => if wayLt y a then y else a) y))
  | [], y => ⟨List.mem_singleton.mpr rfl, fun x hx => by rw [List.mem_singleton.mp hx]; exact sto_way.irr _⟩
  | z :: ys, y => by
    rw [List.foldl_cons]
    have ih := least_fold ys (if wayLt z y = true then z else y)
    refine ih.few (fun x hx => ?_) fun x hx => ?_
    · rcases List.mem_cons.mp hx with rfl | hx
      · split <;> simp
      · exact List.mem_cons_of_mem _ (List.mem_cons_of_mem _ hx)
    · rcases List.mem_cons.mp hx with rfl | hx
      · refine ⟨_, List.mem_cons_self, ?_⟩
        rw [wayLt_eq]
        cases hl : wLt z x with
        | true => rw [if_pos rfl]; exact sto_way.asym hl
        | false => rw [if_neg Bool.false_ne_true]; exact sto_way.irr _
      · rcases List.mem_cons.mp hx with rfl | hx
        · refine ⟨_, List.mem_cons_self, ?_⟩
          rw [wayLt_eq]
          cases hl : wLt x y with
          | true => rw [if_pos rfl]; exact sto_way.irr _
          | false => rw [if_neg Bool.false_ne_true]; exact hl
        · exact ⟨x, List.mem_cons_of_mem _ hx, sto_way.irr _⟩
theorem least_min (l : List (Int × Path)) : Least (· ∈ l) (minW l) := by
  cases l with
  | nil => exact fun x hx => by cases hx
  | cons y ys => exact least_fold ys y
theorem least_from {S : Str → Int × Path → Prop} {o : Str → Way} (h : ∀ c, Least (S c) (o c)) (cs : List Str) : Least (fun x => ∃ c ∈ cs, S c x) (wayFrom o cs) := by
  refine (least_min (cs.filterMap o)).few (fun x hx => ?_) fun x ⟨c, hc, hx⟩ => ?_
  · obtain ⟨c, hc, ho⟩ := List.mem_filterMap.mp hx
    have := h c
    rw [ho] at this
    exact ⟨c, hc, this.1⟩
  · have := h c
    cases ho : o c with
    | none => rw [ho] at this; exact absurd hx (this x)
    | some m => rw [ho] at this; exact ⟨m, List.mem_filterMap.mpr ⟨c, hc, ho⟩, this.2 x hx⟩
end NV
/-! Lst -/
set_option Elab.async false
set_option linter.all false
set_option maxRecDepth 100000
set_option maxHeartbeats 600000
/-! the pass from the end finds the least of all paths -/
namespace NV
open PySem PySem.Spec PyProof.Rows L2
/-- what a path from i on by the cell c can be -/
def onPs (es : List Ent) (i : Nat) (c : Str) : Int × Path → Prop := fun x => ∃ bs, PathOk es i c x.1 x.2 bs
theorem least_past {S : Int × Path → Prop} {w : Way} (pr : Option Int) (h : Least S w) : Least (fun x => ∃ a k', pr = some a ∧ x.1 = k' + a ∧ S (k', x.2)) (past pr w) := by
  match w, pr, h with
  | none, none, h => exact fun x ⟨a, k', e, _⟩ => by cases e
  | none, some i, h => exact fun x ⟨a, k', _, _, hx⟩ => h _ hx
  | some (k, p), none, h => exact fun x ⟨a, k', e, _⟩ => by cases e
  | some (k, p), some i, h =>
    refine ⟨⟨i, k, rfl, rfl, h.1⟩, fun x ⟨a, k', e, hx, hs⟩ => ?_⟩
    cases e
    have := h.2 _ hs
    obtain ⟨x1, x2⟩ := x
    have hx : x1 = k' + i := hx
    subst hx
    rw [wLt_add]
    exact this
theorem least_readers {S T : Int × Path → Prop} {way : Way} {u : Str → Way} (e : Ent) (c : Str) (hw : Least T way) (ho : Least S (u c)) : Least (fun x => S x ∨ (c ∈ e.rs ∧ ∃ p', T (x.1, p') ∧ x.2 = (e.id, c) :: p')) (readers e way u c) := by
  unfold readers
  by_cases hc : c ∈ e.rs
  · rw [if_pos hc]
    match way, hw with
    | none, hw => exact ho.same fun x => ⟨.inl, fun h => h.elim id fun ⟨_, p', hp, _⟩ => absurd hp (hw _)⟩
    | some (k, p), hw =>
      refine (least_better (k, (e.id, c) :: p) ho).few (fun x hx => ?_) fun x hx => ?_
      · rcases hx with rfl | hx
        · exact .inr ⟨hc, p, hw.1, rfl⟩
        · exact .inl hx
      · rcases hx with hx | ⟨_, p', hp, hx⟩
        · exact ⟨x, .inr hx, sto_way.irr _⟩
        · refine ⟨_, .inl rfl, ?_⟩
          have h1 := hw.2 _ hp
          obtain ⟨x1, x2⟩ := x
          have hx : x2 = (e.id, c) :: p' := hx
          subst hx
          have h2 := wLt_step (e.id, c) x1 k p' p 0
          rw [Int.zero_add, Int.zero_add] at h2
          rw [h2]
          exact h1
  · rw [if_neg hc]
    exact ho.same fun x => ⟨.inl, fun h => h.elim id fun h => absurd h.1 hc⟩
theorem blkP_self (es : List Ent) (i : Nat) (c : Str) : blkP es i i c = [] := blkP_nil es i c
/-- a path from an entry on: it reads there, or passes it by -/
theorem path_cut {es : List Ent} {i : Nat} {e : Ent} {c : Str} {k : Int} {p : Path} {bs : List Ent} (he : es[i]? = some e) (h : PathOk es i c k p bs) :
    (c ∉ e.ws ∧ onPs es (i + 1) c (k, p)) ∨ (c ∈ e.ws ∧ ∃ a k', e.pr = some a ∧ k = k' + a ∧ onPs es (i + 1) c (k', p)) ∨ (c ∈ e.rs ∧ e.isW = false ∧ k = 0 ∧ p = [(e.id, c)]) ∨ (c ∈ e.rs ∧ e.isW = true ∧ ∃ c' ∈ e.ws, ∃ p', onPs es (i + 1) c' (k, p') ∧ p = (e.id, c) :: p') := by
  have hil := (List.getElem?_eq_some_iff.mp he).1
  have on : ∀ j, i < j → blkP es i j c = (if c ∈ e.ws then [e] else []) ++ blkP es (i + 1) j c := fun j hj => blkP_succ he hj c
  have sums : ∀ l a, e.pr = some a → sumP (e :: l) = sumP l + a := fun l a hp => by simp only [sumP, hp, Option.getD]; omega
  have none_ : sumP (blkP es i i c) = 0 := by rw [blkP_nil]; rfl
  -- what passes by
  have pass : ∀ (j : Nat) (k' : Int) (p : Path), i < j → Priced (blkP es i j c) → (∀ a, Priced (blkP es (i + 1) j c) → a + sumP (blkP es (i + 1) j c) = a + sumP (blkP es (i + 1) j c) → ∃ bs, PathOk es (i + 1) c (sumP (blkP es (i + 1) j c) + k') p bs) →
      (c ∉ e.ws ∧ onPs es (i + 1) c (sumP (blkP es i j c) + k', p)) ∨ (c ∈ e.ws ∧ ∃ a k'', e.pr = some a ∧ sumP (blkP es i j c) + k' = k'' + a ∧ onPs es (i + 1) c (k'', p)) := by
    intro j k' p hj hp mk
    rw [on j hj] at hp ⊢
    by_cases hc : c ∈ e.ws
    · rw [if_pos hc] at hp ⊢
      have hpe := hp e (by simp)
      cases ha : e.pr with
      | none => exact absurd ha hpe
      | some a =>
        obtain ⟨bs', r⟩ := mk 0 (fun u hu => hp u (by simp [hu])) rfl
        refine .inr ⟨hc, a, _, rfl, ?_, bs', r⟩
        show sumP (e :: blkP es (i + 1) j c) + k' = _
        rw [sums _ a ha]
        omega
    · rw [if_neg hc] at hp ⊢
      obtain ⟨bs', r⟩ := mk 0 hp rfl
      exact .inl ⟨hc, bs', r⟩
  cases h with
  | fin hi h =>
    have := pass es.length 0 [("", c)] hil h fun _ hp _ => ⟨_, by rw [Int.add_zero]; exact .fin hil hp⟩
    rw [Int.add_zero] at this
    rcases this with z | z
    · exact .inl z
    · exact .inr (.inl z)
  | @query i' j e' c1 hij he' hw hcr h =>
    rcases Nat.lt_or_ge i j with hlt | hge
    · have := pass j 0 [(e'.id, c)] hlt h fun _ hp _ => ⟨_, by rw [Int.add_zero]; exact .query hlt he' hw hcr hp⟩
      rw [Int.add_zero] at this
      rcases this with z | z
      · exact .inl z
      · exact .inr (.inl z)
    · have ej : j = i := by omega
      subst ej
      rw [he] at he'
      obtain rfl := Option.some.inj he'
      exact .inr (.inr (.inl ⟨hcr, hw, none_, rfl⟩))
  | @read i' j e' c1 c' k' p' bs' hij he' hw hcr h hc' r =>
    rcases Nat.lt_or_ge i j with hlt | hge
    · have := pass j k' ((e'.id, c) :: p') hlt h fun _ hp _ => ⟨_, .read hlt he' hw hcr hp hc' r⟩
      rcases this with z | z
      · exact .inl z
      · exact .inr (.inl z)
    · have ej : j = i := by omega
      subst ej
      rw [he] at he'
      obtain rfl := Option.some.inj he'
      refine .inr (.inr (.inr ⟨hcr, hw, c', hc', p', ⟨bs', ?_⟩, rfl⟩))
      rw [none_, Int.zero_add]
      exact r
theorem on_least {es : List Ent} : ∀ (m i : Nat), es.length - i = m → i ≤ es.length → ∀ c, Least (onPs es i c) (onB (es.drop i) c)
  | 0, i, hm, hi, c => by
    have e : i = es.length := by omega
    subst e
    rw [List.drop_length]
    have z : sumP (blkP es es.length es.length c) = 0 := by rw [blkP_nil]; rfl
    refine ⟨⟨blkP es es.length es.length c, ?_⟩, fun x ⟨bs, hx⟩ => ?_⟩
    · have := PathOk.fin (es := es) (i := es.length) (c := c) (Nat.le_refl _) (by rw [blkP_nil]; exact fun _ h => by cases h)
      rw [z] at this
      exact this
    · obtain ⟨k, p⟩ := x
      cases hx with
      | fin _ _ => rw [z]; exact sto_way.irr _
      | query hij he _ _ _ =>
        have := (List.getElem?_eq_some_iff.mp he).1
        omega
      | read hij he _ _ _ _ _ =>
        have := (List.getElem?_eq_some_iff.mp he).1
        omega
  | m + 1, i, hm, hi, c => by
    obtain ⟨e, he⟩ : ∃ e, es[i]? = some e := ⟨_, List.getElem?_eq_getElem (by omega)⟩
    have ih := on_least (es := es) m (i + 1) (by omega) (by omega)
    rw [on_drop he]
    have none_ : Priced (blkP es i i c) := by rw [blkP_nil]; exact fun _ h => by cases h
    cases hw : e.isW with
    | true =>
      match e, hw, he with
      | .wr id rs ws pr, hw, he =>
        have hb : Least (fun x => (c ∉ ws ∧ onPs es (i + 1) c x) ∨ (c ∈ ws ∧ ∃ a k', pr = some a ∧ x.1 = k' + a ∧ onPs es (i + 1) c (k', x.2))) (blocked (.wr id rs ws pr) (onB (es.drop (i + 1))) c) := by
          unfold blocked
          by_cases hc : c ∈ ws
          · rw [if_pos (show c ∈ (Ent.wr id rs ws pr).ws from hc)]
            exact (least_past pr (ih c)).same fun x => ⟨fun h => .inr ⟨hc, h⟩, fun h => h.elim (fun h => absurd hc h.1) (·.2)⟩
          · rw [if_neg (show c ∉ (Ent.wr id rs ws pr).ws from hc)]
            exact (ih c).same fun x => ⟨fun h => .inl ⟨hc, h⟩, fun h => h.elim (·.2) (fun h => absurd h.1 hc)⟩
        refine (least_readers (.wr id rs ws pr) c (least_from ih ws) hb).same fun x => ⟨fun h => ?_, fun ⟨bs, hx⟩ => ?_⟩
        · rcases h with (⟨hc, bs, r⟩ | ⟨hc, a, k', hp, hx, bs, r⟩) | ⟨hc, p', ⟨c', hc', bs, r⟩, hx⟩
          · exact ⟨bs, path_free he hc r⟩
          · refine ⟨.wr id rs ws pr :: bs, ?_⟩
            rw [hx]
            exact path_paid he hc hp r
          · have := PathOk.read (es := es) (Nat.le_refl i) he rfl hc none_ hc' r
            rw [blkP_nil, show sumP [] + x.1 = x.1 by simp [sumP]] at this
            exact ⟨_, by rw [hx]; exact this⟩
        · rcases path_cut he hx with ⟨hc, r⟩ | ⟨hc, a, k', hp, hk, r⟩ | ⟨_, h, _⟩ | ⟨hr, _, c', hc', p', r, hp⟩
          · exact .inl (.inl ⟨hc, r⟩)
          · exact .inl (.inr ⟨hc, a, k', hp, hk, r⟩)
          · cases h
          · exact .inr ⟨hr, p', ⟨c', hc', r⟩, hp⟩
    | false =>
      match e, hw, he with
      | .qu id cs, hw, he =>
        have h0 : Least (fun x => x = ((0 : Int), ([] : Path))) (some (0, [])) := ⟨rfl, fun x hx => by rw [hx]; exact sto_way.irr _⟩
        refine (least_readers (.qu id cs) c h0 (ih c)).same fun x => ⟨fun h => ?_, fun ⟨bs, hx⟩ => ?_⟩
        · rcases h with ⟨bs, r⟩ | ⟨hc, p', h, hx⟩
          · exact ⟨bs, path_free he (fun z => by cases z) r⟩
          · obtain ⟨h1, rfl⟩ := Prod.mk.inj h
            have := PathOk.query (es := es) (Nat.le_refl i) he rfl hc none_
            rw [blkP_nil] at this
            exact ⟨_, by rw [hx, h1]; exact this⟩
        · rcases path_cut he hx with ⟨hc, r⟩ | ⟨hc, _⟩ | ⟨hr, _, hk, hp⟩ | ⟨_, h, _⟩
          · exact .inl r
          · cases hc
          · exact .inr ⟨hr, [], by rw [hk], hp⟩
          · cases h
/-- what a path of the write at i can be -/
def pathsAt (es : List Ent) (i : Nat) : Int × Path → Prop := fun x => ∃ e, es[i]? = some e ∧ ∃ c ∈ e.ws, onPs es (i + 1) c x
theorem way_least {es : List Ent} {i : Nat} {e : Ent} (he : es[i]? = some e) : Least (pathsAt es i) (wayFrom (onB (es.drop (i + 1))) e.ws) := by
  have hi := (List.getElem?_eq_some_iff.mp he).1
  refine (least_from (fun c => on_least (es.length - (i + 1)) (i + 1) rfl hi c) e.ws).same fun x => ⟨fun h => ⟨e, he, h⟩, fun ⟨e', he', h⟩ => ?_⟩
  rw [he] at he'
  obtain rfl := Option.some.inj he'
  exact h
end NV
/-! Pos -/
set_option Elab.async false
set_option linter.all false
set_option maxRecDepth 100000
set_option maxHeartbeats 600000
/-! edges by positions; all paths edge by edge; the offers of edges -/
namespace NV
open PySem PySem.Spec PyProof.Rows L2
def wrAt (es : List Ent) (c : Str) (k : Nat) : Bool := match es[k]? with
  | some e => decide (c ∈ e.ws)
  | none => false
/-- the positions from k on, ahead of j, that write c -/
def wposs (es : List Ent) (c : Str) (k j : Nat) : List Nat := (List.range' k (j - k)).filter (wrAt es c)
theorem wposs_nil (es : List Ent) (c : Str) (k : Nat) : wposs es c k k = [] := by
  unfold wposs
  rw [Nat.sub_self]
  rfl
theorem wposs_succ {es : List Ent} {c : Str} {k j : Nat} {e : Ent} (he : es[k]? = some e) (h : k < j) : wposs es c k j = (if c ∈ e.ws then [k] else []) ++ wposs es c (k + 1) j := by
  unfold wposs
  rw [show j - k = (j - (k + 1)) + 1 by omega, List.range'_succ, List.filter_cons]
  have : wrAt es c k = decide (c ∈ e.ws) := by
    unfold wrAt
    rw [he]
  rw [this]
  by_cases hc : c ∈ e.ws
  · rw [decide_eq_true hc, if_pos rfl, if_pos hc]
    rfl
  · rw [decide_eq_false hc, if_neg Bool.false_ne_true, if_neg hc]
    rfl
theorem wposs_ok {es : List Ent} {c : Str} {k j b : Nat} (h : b ∈ wposs es c k j) : k ≤ b ∧ b < j ∧ ∃ e, es[b]? = some e ∧ c ∈ e.ws := by
  unfold wposs at h
  obtain ⟨h1, h2⟩ := List.mem_filter.mp h
  have := List.mem_range'_1.mp h1
  unfold wrAt at h2
  cases he : es[b]? with
  | none => rw [he] at h2; cases h2
  | some e => rw [he] at h2; exact ⟨by omega, by omega, e, rfl, of_decide_eq_true h2⟩
def readAt (es : List Ent) (c : Str) (j : Nat) : Prop := j = es.length ∨ ∃ e, es[j]? = some e ∧ c ∈ e.rs
theorem edgesF_iff {es : List Ent} {c : Str} : ∀ (rest : List Ent) (k : Nat) (btw : List Nat), k ≤ es.length → es.drop k = rest → ∀ x, x ∈ edgesF c k btw rest ↔ ∃ j, k ≤ j ∧ j ≤ es.length ∧ readAt es c j ∧ x = (j, c, btw ++ wposs es c k j)
  | [], k, btw, hk, h, x => by
    have e : k = es.length := by
      have : es.length ≤ k := List.drop_eq_nil_iff.mp h
      omega
    subst e
    show x ∈ [(es.length, c, btw)] ↔ _
    rw [List.mem_singleton]
    constructor
    · rintro rfl
      exact ⟨_, Nat.le_refl _, Nat.le_refl _, .inl rfl, by rw [wposs_nil, List.append_nil]⟩
    · rintro ⟨j, h1, h2, _, rfl⟩
      obtain rfl : j = es.length := by omega
      rw [wposs_nil, List.append_nil]
  | e :: rest, k, btw, hk, h, x => by
    have hlt : k < es.length := by
      rcases Nat.lt_or_ge k es.length with h1 | h1
      · exact h1
      · rw [List.drop_eq_nil_of_le h1] at h; cases h
    rw [List.drop_eq_getElem_cons hlt] at h
    obtain ⟨he, hr⟩ := List.cons.inj h
    have hk1 : es[k]? = some e := by rw [List.getElem?_eq_getElem hlt, he]
    have ih := edgesF_iff (c := c) rest (k + 1) (if c ∈ e.ws then btw ++ [k] else btw) hlt hr x
    show x ∈ (if c ∈ e.rs then [(k, c, btw)] else []) ++ edgesF c (k + 1) (if c ∈ e.ws then btw ++ [k] else btw) rest ↔ _
    have cat : ∀ j, k < j → (if c ∈ e.ws then btw ++ [k] else btw) ++ wposs es c (k + 1) j = btw ++ wposs es c k j := fun j hj => by
      rw [wposs_succ hk1 hj]
      by_cases hc : c ∈ e.ws
      · rw [if_pos hc, if_pos hc, List.append_assoc]
      · rw [if_neg hc, if_neg hc]
        rfl
    rw [List.mem_append, ih]
    constructor
    · rintro (z | ⟨j, h1, h2, h3, rfl⟩)
      · by_cases hc : c ∈ e.rs
        · rw [if_pos hc] at z
          rw [List.mem_singleton.mp z]
          exact ⟨k, Nat.le_refl _, hk, .inr ⟨e, hk1, hc⟩, by rw [wposs_nil, List.append_nil]⟩
        · rw [if_neg hc] at z; cases z
      · exact ⟨j, by omega, h2, h3, by rw [cat j (by omega)]⟩
    · rintro ⟨j, h1, h2, h3, rfl⟩
      rcases Nat.lt_or_ge k j with hj | hj
      · exact .inr ⟨j, hj, h2, h3, by rw [cat j hj]⟩
      · obtain rfl : j = k := by omega
        rcases h3 with h3 | ⟨e', he', hc⟩
        · omega
        · rw [hk1] at he'
          obtain rfl := Option.some.inj he'
          rw [if_pos hc, wposs_nil, List.append_nil]
          exact .inl (List.mem_singleton.mpr rfl)
theorem edgesL_iff {es : List Ent} {one : Nat} {e : Ent} (he : es[one]? = some e) (x : Edge) : x ∈ edgesL es one ↔ ∃ c ∈ e.ws, ∃ j, one + 1 ≤ j ∧ j ≤ es.length ∧ readAt es c j ∧ x = (j, c, wposs es c (one + 1) j) := by
  have hi := (List.getElem?_eq_some_iff.mp he).1
  unfold edgesL
  rw [he, List.mem_flatMap]
  constructor
  · rintro ⟨c, hc, h⟩
    exact ⟨c, hc, by simpa using (edgesF_iff (es.drop (one + 1)) (one + 1) [] hi rfl x).mp h⟩
  · rintro ⟨c, hc, h⟩
    exact ⟨c, hc, (edgesF_iff (es.drop (one + 1)) (one + 1) [] hi rfl x).mpr (by simpa using h)⟩
theorem wposs_blk {es : List Ent} {c : Str} : ∀ (m k j : Nat), j - k = m → j ≤ es.length → (Priced (blkP es k j c) → total ((wposs es c k j).map (prAt es)) = some (sumP (blkP es k j c))) ∧ (¬ Priced (blkP es k j c) → total ((wposs es c k j).map (prAt es)) = none)
  | 0, k, j, hm, hj => by
    have e1 : blkP es k j c = [] := by unfold blkP; rw [hm]; rfl
    have e2 : wposs es c k j = [] := by unfold wposs; rw [hm]; rfl
    rw [e1, e2]
    exact ⟨fun _ => rfl, fun h => absurd (fun _ hu => by cases hu) h⟩
  | m + 1, k, j, hm, hj => by
    obtain ⟨e, he⟩ : ∃ e, es[k]? = some e := ⟨_, List.getElem?_eq_getElem (by omega)⟩
    obtain ⟨h1, h2⟩ := wposs_blk (es := es) (c := c) m (k + 1) j (by omega) hj
    rw [blkP_succ he (by omega), wposs_succ he (by omega)]
    by_cases hc : c ∈ e.ws
    · rw [if_pos hc, if_pos hc]
      have pe : prAt es k = e.pr := by
        unfold prAt
        rw [he]
      show (Priced (e :: blkP es (k + 1) j c) → addC (prAt es k) (total ((wposs es c (k + 1) j).map (prAt es))) = _) ∧ (¬ Priced (e :: blkP es (k + 1) j c) → addC (prAt es k) (total ((wposs es c (k + 1) j).map (prAt es))) = _)
      rw [pe]
      constructor
      · intro hp
        cases ha : e.pr with
        | none => exact absurd ha (hp e List.mem_cons_self)
        | some a =>
          rw [h1 fun u hu => hp u (List.mem_cons_of_mem _ hu)]
          show some (a + sumP (blkP es (k + 1) j c)) = some ((e.pr.getD 0) + sumP (blkP es (k + 1) j c))
          rw [ha]
          rfl
      · intro hp
        cases ha : e.pr with
        | none => rfl
        | some a =>
          rw [h2 fun g => hp fun u hu => (List.mem_cons.mp hu).elim (fun z => by rw [z, ha]; simp) (g u)]
          rfl
    · rw [if_neg hc, if_neg hc]
      exact ⟨h1, h2⟩
/-! ### offers -/
def nmAt (es : List Ent) (k : Nat) : Str := match es[k]? with
  | some e => e.id
  | none => ""
/-- the way from the entry at k on; from a reader that ends a path, nothing -/
def restAt (es : List Ent) (k : Nat) : Way := match es[k]? with
  | some e => if e.isW then wayFrom (onB (es.drop (k + 1))) e.ws else some (0, [])
  | none => some (0, [])
def offerE (es : List Ent) (x : Edge) : Way := match total (x.2.2.map (prAt es)), restAt es x.1 with
  | some s, some r => some (s + r.1, (nmAt es x.1, x.2.1) :: r.2)
  | _, _ => none
def takeW (acc offer : Way) : Way := match offer with
  | none => acc
  | some o => better o acc
theorem least_take {S : Int × Path → Prop} {acc : Way} (o : Way) (h : Least S acc) : Least (fun y => S y ∨ o = some y) (takeW acc o) := by
  match o with
  | none => exact h.same fun x => ⟨.inl, fun h => h.elim id fun h => by cases h⟩
  | some o => exact (least_better o h).same fun x => ⟨fun h => h.elim (fun h => .inr (by rw [h])) .inl, fun h => h.elim .inr fun h => .inl (Option.some.inj h).symm⟩
theorem least_takes (f : Edge → Way) : ∀ (l : List Edge) (acc : Way) (S : Int × Path → Prop), Least S acc → Least (fun y => S y ∨ ∃ x ∈ l, f x = some y) ((l.map f).foldl takeW acc)
  | [], acc, S, h => h.same fun y => ⟨.inl, fun h => h.elim id fun ⟨x, hx, _⟩ => by cases hx⟩
  | x :: l, acc, S, h => by
    rw [List.map_cons, List.foldl_cons]
    refine (least_takes f l _ _ (least_take (f x) h)).same fun y => ?_
    constructor
    · rintro ((h | h) | ⟨z, hz, h⟩)
      · exact .inl h
      · exact .inr ⟨x, List.mem_cons_self, h⟩
      · exact .inr ⟨z, List.mem_cons_of_mem _ hz, h⟩
    · rintro (h | ⟨z, hz, h⟩)
      · exact .inl (.inl h)
      · rcases List.mem_cons.mp hz with rfl | hz
        · exact .inl (.inr h)
        · exact .inr ⟨z, hz, h⟩
/-- the best of the offers is the way -/
theorem offers_way {es : List Ent} {one : Nat} {e : Ent} (he : es[one]? = some e) : ((edgesL es one).map (offerE es)).foldl takeW none = wayFrom (onB (es.drop (one + 1))) e.ws := by
  have h0 : Least (fun _ : Int × Path => False) none := fun _ h => h
  refine Least.one ((least_takes (offerE es) (edgesL es one) none _ h0).few (T := pathsAt es one) (fun y hy => ?_) fun y hy => ?_) (way_least he)
  · obtain ⟨x, hx, hy⟩ := hy.resolve_left id
    obtain ⟨c, hc, j, hj1, hj2, hr, rfl⟩ := (edgesL_iff he x).mp hx
    refine ⟨e, he, c, hc, ?_⟩
    have hb := wposs_blk (es := es) (c := c) _ (one + 1) j rfl hj2
    unfold offerE at hy
    dsimp only at hy
    by_cases hp : Priced (blkP es (one + 1) j c)
    · rw [hb.1 hp] at hy
      cases hrest : restAt es j with
      | none => rw [hrest] at hy; cases hy
      | some r =>
        rw [hrest] at hy
        obtain rfl := Option.some.inj hy
        rcases hr with rfl | ⟨e', he', hcr⟩
        · have hn : es[es.length]? = none := List.getElem?_eq_none (Nat.le_refl _)
          have e1 : restAt es es.length = some (0, []) := by unfold restAt; rw [hn]
          rw [e1] at hrest
          obtain rfl := Option.some.inj hrest
          have e2 : nmAt es es.length = "" := by unfold nmAt; rw [hn]
          rw [e2]
          refine ⟨blkP es (one + 1) es.length c, ?_⟩
          show PathOk es (one + 1) c (sumP _ + 0) _ _
          rw [Int.add_zero]
          exact .fin hj1 hp
        · have e2 : nmAt es j = e'.id := by unfold nmAt; rw [he']
          rw [e2]
          have e1 : restAt es j = if e'.isW then wayFrom (onB (es.drop (j + 1))) e'.ws else some (0, []) := by unfold restAt; rw [he']
          rw [e1] at hrest
          cases hw : e'.isW with
          | false =>
            rw [hw, if_neg Bool.false_ne_true] at hrest
            obtain rfl := Option.some.inj hrest
            refine ⟨blkP es (one + 1) j c, ?_⟩
            show PathOk es (one + 1) c (sumP _ + 0) _ _
            rw [Int.add_zero]
            exact .query hj1 he' hw hcr hp
          | true =>
            rw [hw, if_pos rfl] at hrest
            have := way_least he'
            rw [hrest] at this
            obtain ⟨e3, he3, c', hc', bs, hr'⟩ := this.1
            rw [he'] at he3
            obtain rfl := Option.some.inj he3
            exact ⟨_, .read hj1 he' hw hcr hp hc' hr'⟩
    · rw [hb.2 hp] at hy
      cases hy
  · obtain ⟨e', he', c, hc, bs, hr⟩ := hy
    rw [he] at he'
    obtain rfl := Option.some.inj he'
    have mk : ∀ (j : Nat) (r : Int × Path), one + 1 ≤ j → j ≤ es.length → readAt es c j → Priced (blkP es (one + 1) j c) → restAt es j = some r → ∃ x ∈ edgesL es one, offerE es x = some (sumP (blkP es (one + 1) j c) + r.1, (nmAt es j, c) :: r.2) := by
      intro j r h1 h2 h3 hp hrest
      refine ⟨(j, c, wposs es c (one + 1) j), (edgesL_iff he _).mpr ⟨c, hc, j, h1, h2, h3, rfl⟩, ?_⟩
      unfold offerE
      dsimp only
      rw [(wposs_blk (es := es) (c := c) _ (one + 1) j rfl h2).1 hp, hrest]
    obtain ⟨k, p⟩ := y
    cases hr with
    | fin hi hp =>
      have hn : es[es.length]? = none := List.getElem?_eq_none (Nat.le_refl _)
      obtain ⟨x, hx, ho⟩ := mk es.length (0, []) hi (Nat.le_refl _) (.inl rfl) hp (by unfold restAt; rw [hn])
      refine ⟨_, .inr ⟨x, hx, ho⟩, ?_⟩
      have e2 : nmAt es es.length = "" := by unfold nmAt; rw [hn]
      rw [e2]
      show wLt _ (sumP _ + 0, _) = false
      rw [Int.add_zero]
      exact sto_way.irr _
    | @query i j e' c hij he' hw hcr hp =>
      have hj := (List.getElem?_eq_some_iff.mp he').1
      obtain ⟨x, hx, ho⟩ := mk j (0, []) hij (by omega) (.inr ⟨e', he', hcr⟩) hp (by unfold restAt; rw [he']; dsimp only; rw [hw]; rfl)
      refine ⟨_, .inr ⟨x, hx, ho⟩, ?_⟩
      have e2 : nmAt es j = e'.id := by unfold nmAt; rw [he']
      rw [e2]
      show wLt _ (sumP _ + 0, _) = false
      rw [Int.add_zero]
      exact sto_way.irr _
    | @read i j e' c c' k' p' bs' hij he' hw hcr hp hc' hr' =>
      have hj := (List.getElem?_eq_some_iff.mp he').1
      have hl := way_least he'
      cases hway : wayFrom (onB (es.drop (j + 1))) e'.ws with
      | none =>
        rw [hway] at hl
        exact absurd ⟨e', he', c', hc', bs', hr'⟩ (hl (k', p'))
      | some r =>
        rw [hway] at hl
        obtain ⟨x, hx, ho⟩ := mk j r hij (by omega) (.inr ⟨e', he', hcr⟩) hp (by unfold restAt; rw [he']; dsimp only; rw [hw]; exact hway)
        refine ⟨_, .inr ⟨x, hx, ho⟩, ?_⟩
        have e2 : nmAt es j = e'.id := by unfold nmAt; rw [he']
        rw [e2]
        have := hl.2 (k', p') ⟨e', he', c', hc', bs', hr'⟩
        show wLt (sumP (blkP es (one + 1) j c) + k', (e'.id, c) :: p') (sumP (blkP es (one + 1) j c) + r.1, (e'.id, c) :: r.2) = false
        rw [wLt_step]
        exact this
/-! ### all paths -/
abbrev AP := Int × Path × List Nat
/-- does the entry at k end a path -/
def endsAt (es : List Ent) (k : Nat) : Bool := match es[k]? with
  | some e => !e.isW
  | none => true
def pathsE (es : List Ent) (go : Nat → List AP) (x : Edge) : List AP := match total (x.2.2.map (prAt es)) with
  | none => []
  | some s => if endsAt es x.1 then [(s, [(nmAt es x.1, x.2.1)], x.2.2)] else (go x.1).map fun y => (s + y.1, (nmAt es x.1, x.2.1) :: y.2.1, x.2.2 ++ y.2.2)
def pathsF (es : List Ent) : Nat → Nat → List AP
  | 0, _ => []
  | n + 1, one => (edgesL es one).flatMap (pathsE es (pathsF es n))
/-- a path with the positions of its blockers -/
inductive PathPs (es : List Ent) : Nat → Str → Int → Path → List Nat → Prop
  | fin {i : Nat} {c : Str} (hi : i ≤ es.length) (h : Priced (blkP es i es.length c)) : PathPs es i c (sumP (blkP es i es.length c)) [("", c)] (wposs es c i es.length)
  | query {i j : Nat} {e : Ent} {c : Str} (hij : i ≤ j) (he : es[j]? = some e) (hw : e.isW = false) (hc : c ∈ e.rs) (h : Priced (blkP es i j c)) : PathPs es i c (sumP (blkP es i j c)) [(e.id, c)] (wposs es c i j)
  | read {i j : Nat} {e : Ent} {c c' : Str} {k : Int} {p : Path} {bs : List Nat} (hij : i ≤ j) (he : es[j]? = some e) (hw : e.isW = true) (hc : c ∈ e.rs) (h : Priced (blkP es i j c)) (hc' : c' ∈ e.ws) (r : PathPs es (j + 1) c' k p bs) :
      PathPs es i c (sumP (blkP es i j c) + k) ((e.id, c) :: p) (wposs es c i j ++ bs)
theorem PathPs.ok {es : List Ent} {i : Nat} {c : Str} {k : Int} {p : Path} {bs : List Nat} (h : PathPs es i c k p bs) : ∃ l, PathOk es i c k p l := by
  induction h with
  | fin hi h => exact ⟨_, .fin hi h⟩
  | query hij he hw hc h => exact ⟨_, .query hij he hw hc h⟩
  | read hij he hw hc h hc' r ih => exact ih.elim fun l hl => ⟨_, .read hij he hw hc h hc' hl⟩
theorem PathOk.ps {es : List Ent} {i : Nat} {c : Str} {k : Int} {p : Path} {l : List Ent} (h : PathOk es i c k p l) : ∃ bs, PathPs es i c k p bs := by
  induction h with
  | fin hi h => exact ⟨_, .fin hi h⟩
  | query hij he hw hc h => exact ⟨_, .query hij he hw hc h⟩
  | read hij he hw hc h hc' r ih => exact ih.elim fun l hl => ⟨_, .read hij he hw hc h hc' hl⟩
theorem paths_iff {es : List Ent} : ∀ (n one : Nat) (e : Ent), es[one]? = some e → es.length - one ≤ n → ∀ x : AP, x ∈ pathsF es n one ↔ ∃ c ∈ e.ws, PathPs es (one + 1) c x.1 x.2.1 x.2.2
  | 0, one, e, he, hn, x => by
    have := (List.getElem?_eq_some_iff.mp he).1
    omega
  | n + 1, one, e, he, hn, x => by
    have hone := (List.getElem?_eq_some_iff.mp he).1
    show x ∈ (edgesL es one).flatMap (pathsE es (pathsF es n)) ↔ _
    rw [List.mem_flatMap]
    constructor
    · rintro ⟨y, hy, hx⟩
      obtain ⟨c, hc, j, hj1, hj2, hr, rfl⟩ := (edgesL_iff he y).mp hy
      refine ⟨c, hc, ?_⟩
      have hb := wposs_blk (es := es) (c := c) _ (one + 1) j rfl hj2
      unfold pathsE at hx
      dsimp only at hx
      by_cases hp : Priced (blkP es (one + 1) j c)
      · rw [hb.1 hp] at hx
        dsimp only at hx
        rcases hr with rfl | ⟨e', he', hcr⟩
        · have hn' : es[es.length]? = none := List.getElem?_eq_none (Nat.le_refl _)
          have e1 : endsAt es es.length = true := by unfold endsAt; rw [hn']
          have e2 : nmAt es es.length = "" := by unfold nmAt; rw [hn']
          rw [e1, e2, if_pos rfl] at hx
          rw [List.mem_singleton.mp hx]
          exact .fin hj1 hp
        · have e1 : endsAt es j = !e'.isW := by unfold endsAt; rw [he']
          have e2 : nmAt es j = e'.id := by unfold nmAt; rw [he']
          rw [e1, e2] at hx
          cases hw : e'.isW with
          | false =>
            rw [hw] at hx
            rw [if_pos (by rfl)] at hx
            rw [List.mem_singleton.mp hx]
            exact .query hj1 he' hw hcr hp
          | true =>
            rw [hw] at hx
            rw [if_neg (by decide)] at hx
            obtain ⟨y, hy, rfl⟩ := List.mem_map.mp hx
            obtain ⟨c', hc', r⟩ := (paths_iff n j e' he' (by omega) y).mp hy
            exact .read hj1 he' hw hcr hp hc' r
      · rw [hb.2 hp] at hx
        cases hx
    · rintro ⟨c, hc, hr⟩
      obtain ⟨k, p, bs⟩ := x
      have edge : ∀ j, one + 1 ≤ j → j ≤ es.length → readAt es c j → (j, c, wposs es c (one + 1) j) ∈ edgesL es one := fun j h1 h2 h3 => (edgesL_iff he _).mpr ⟨c, hc, j, h1, h2, h3, rfl⟩
      cases hr with
      | fin hi hp =>
        refine ⟨_, edge es.length hi (Nat.le_refl _) (.inl rfl), ?_⟩
        have hn' : es[es.length]? = none := List.getElem?_eq_none (Nat.le_refl _)
        have e1 : endsAt es es.length = true := by unfold endsAt; rw [hn']
        have e2 : nmAt es es.length = "" := by unfold nmAt; rw [hn']
        unfold pathsE
        dsimp only
        rw [(wposs_blk (es := es) (c := c) _ (one + 1) es.length rfl (Nat.le_refl _)).1 hp]
        dsimp only
        rw [e1, e2, if_pos rfl]
        exact List.mem_singleton.mpr rfl
      | @query i j e' c hij he' hw hcr hp =>
        have hj := (List.getElem?_eq_some_iff.mp he').1
        refine ⟨_, edge j hij (by omega) (.inr ⟨e', he', hcr⟩), ?_⟩
        have e1 : endsAt es j = !e'.isW := by unfold endsAt; rw [he']
        have e2 : nmAt es j = e'.id := by unfold nmAt; rw [he']
        unfold pathsE
        dsimp only
        rw [(wposs_blk (es := es) (c := c) _ (one + 1) j rfl (by omega)).1 hp]
        dsimp only
        rw [e1, e2, hw, if_pos (by rfl)]
        exact List.mem_singleton.mpr rfl
      | @read i j e' c c' k' p' bs' hij he' hw hcr hp hc' hr' =>
        have hj := (List.getElem?_eq_some_iff.mp he').1
        refine ⟨_, edge j hij (by omega) (.inr ⟨e', he', hcr⟩), ?_⟩
        have e1 : endsAt es j = !e'.isW := by unfold endsAt; rw [he']
        have e2 : nmAt es j = e'.id := by unfold nmAt; rw [he']
        unfold pathsE
        dsimp only
        rw [(wposs_blk (es := es) (c := c) _ (one + 1) j rfl (by omega)).1 hp]
        dsimp only
        rw [e1, e2, hw, if_neg (by decide)]
        exact List.mem_map.mpr ⟨(k', p', bs'), (paths_iff n j e' he' (by omega) _).mpr ⟨c', hc', hr'⟩, rfl⟩
/-- the least of all paths is the way -/
theorem paths_least {es : List Ent} {n one : Nat} {e : Ent} (he : es[one]? = some e) (hn : es.length - one ≤ n) : Least (fun y => y ∈ (pathsF es n one).map fun x => (x.1, x.2.1)) (wayFrom (onB (es.drop (one + 1))) e.ws) := by
  refine (way_least he).same fun y => ?_
  constructor
  · rintro ⟨e', he', c, hc, bs, hr⟩
    rw [he] at he'
    obtain rfl := Option.some.inj he'
    obtain ⟨ps, r⟩ := hr.ps
    exact List.mem_map.mpr ⟨(y.1, y.2, ps), (paths_iff n one e he hn _).mpr ⟨c, hc, r⟩, rfl⟩
  · intro h
    obtain ⟨x, hx, rfl⟩ := List.mem_map.mp h
    obtain ⟨c, hc, r⟩ := (paths_iff n one e he hn x).mp hx
    obtain ⟨l, hl⟩ := r.ok
    exact ⟨e, he, c, hc, l, hl⟩
end NV
/-! Lab -/
set_option Elab.async false
set_option linter.all false
set_option maxRecDepth 100000
set_option maxHeartbeats 600000
/-! labels: ways that end at the first reader with its label -/
namespace NV
open PySem PySem.Spec PyProof.Rows L2
/-- x is at most y where y is at most T -/
def leT (T : Int) (x y : Cost) : Prop := ∀ b, y = some b → b ≤ T → ∃ a, x = some a ∧ a ≤ b
theorem leT.refl (T : Int) (x : Cost) : leT T x x := fun b e _ => ⟨b, e, Int.le_refl _⟩
theorem fromT {T : Int} {o o' : Str → Way} {cs : List Str} (h : ∀ c, leT T (costW (o c)) (costW (o' c))) : leT T (costW (wayFrom o cs)) (costW (wayFrom o' cs)) := by
  intro b e hb
  obtain ⟨c, hc, hoc⟩ := fromC_some e
  obtain ⟨a, ha, hab⟩ := h c b hoc hb
  obtain ⟨a', ha', hl⟩ := fromC_le (o := o) hc a ha
  exact ⟨a', ha', by omega⟩
theorem readT {T : Int} {e : Ent} {w w' : Way} {u u' : Str → Way} (hw : leT T (costW w) (costW w')) (hu : ∀ c, leT T (costW (u c)) (costW (u' c))) : ∀ c, leT T (costW (readers e w u c)) (costW (readers e w' u' c)) := by
  intro c b hb hbT
  unfold readers at hb ⊢
  by_cases hc : c ∈ e.rs
  · rw [if_pos hc] at hb ⊢
    have low : ∀ a, costW (u c) = some a → a ≤ b → ∃ a', costW (match w with | none => u c | some (k, p) => better (k, (e.id, c) :: p) (u c)) = some a' ∧ a' ≤ b := fun a ha hab => by
      match w with
      | none => exact ⟨a, ha, hab⟩
      | some (k, p) =>
        dsimp only
        rw [cost_better, ha]
        exact ⟨min k a, rfl, by omega⟩
    have low2 : ∀ k p, w = some (k, p) → k ≤ b → ∃ a', costW (match w with | none => u c | some (k, p) => better (k, (e.id, c) :: p) (u c)) = some a' ∧ a' ≤ b := fun k p hk hkb => by
      rw [hk]
      dsimp only
      rw [cost_better]
      cases hx : costW (u c) with
      | none => exact ⟨k, rfl, hkb⟩
      | some j => exact ⟨min k j, rfl, by omega⟩
    match w', hw, hb with
    | none, _, hb =>
      obtain ⟨a, ha, hab⟩ := hu c b hb hbT
      exact low a ha hab
    | some (k', p'), hw, hb =>
      dsimp only at hb
      rw [cost_better] at hb
      have byW : k' ≤ b → ∃ a', costW (match w with | none => u c | some (k, p) => better (k, (e.id, c) :: p) (u c)) = some a' ∧ a' ≤ b := fun hk => by
        obtain ⟨a, ha, hab⟩ := hw k' rfl (by omega)
        cases hw0 : w with
        | none => rw [hw0] at ha; cases ha
        | some x =>
          obtain ⟨k, p⟩ := x
          rw [hw0] at ha
          have ha : k = a := Option.some.inj ha
          have := low2 k p hw0 (by omega)
          rw [hw0] at this
          exact this
      cases hx : costW (u' c) with
      | none =>
        rw [hx] at hb
        have hb : k' = b := Option.some.inj hb
        exact byW (by omega)
      | some j =>
        rw [hx] at hb
        have hb : min k' j = b := Option.some.inj hb
        rcases Int.le_total k' j with h | h
        · exact byW (by omega)
        · obtain ⟨a, ha, hab⟩ := hu c j hx (by omega)
          exact low a ha (by omega)
  · rw [if_neg hc] at hb ⊢
    exact hu c b hb hbT
theorem blockT {T : Int} {e : Ent} (ok : e.Ok) {o o' : Str → Way} (h : ∀ c, leT T (costW (o c)) (costW (o' c))) : ∀ c, leT T (costW (blocked e o c)) (costW (blocked e o' c)) := by
  intro c b hb hbT
  unfold blocked at hb ⊢
  by_cases hc : c ∈ e.ws
  · rw [if_pos hc] at hb ⊢
    cases hp : e.pr with
    | none =>
      rw [hp] at hb
      cases ho : o' c with
      | none => rw [ho] at hb; cases hb
      | some x => rw [ho] at hb; cases hb
    | some i =>
      rw [hp] at hb
      have hi := pr_ok ok hp
      cases ho : o' c with
      | none => rw [ho] at hb; cases hb
      | some x =>
        rw [ho] at hb
        have hb : x.1 + i = b := Option.some.inj hb
        obtain ⟨a, ha, hab⟩ := h c x.1 (by rw [ho]; rfl) (by omega)
        cases hu : o c with
        | none => rw [hu] at ha; cases ha
        | some y =>
          rw [hu] at ha
          have ha : y.1 = a := Option.some.inj ha
          exact ⟨y.1 + i, rfl, by omega⟩
  · rw [if_neg hc] at hb ⊢
    exact h c b hb hbT
/-- back over an entry, with labels -/
def stepL (f : Str → Int) (e : Ent) (o : Str → Way) : Str → Way := readers e (if e.isW then some (f e.id, []) else some (0, [])) (if e.isW then blocked e o else o)
def onL (f : Str → Int) : List Ent → Str → Way
  | [] => endW
  | e :: rest => stepL f e (onL f rest)
def waysL (f : Str → Int) : List Ent → List (Str × Way)
  | [] => []
  | e :: rest => waysL f rest ++ (if e.isW then [(e.id, wayFrom (onL f rest) e.ws)] else [])
theorem waysL_ids (f : Str → Int) : ∀ es : List Ent, (waysL f es).map (·.1) = ((es.filter Ent.isW).map Ent.id).reverse
  | [] => rfl
  | e :: rest => by
    have ih := waysL_ids f rest
    unfold waysL
    rw [List.map_append, ih, List.filter_cons]
    cases e.isW <;> simp
theorem stepLo {T : Int} {f : Str → Int} {e : Ent} (ok : e.Ok) {o o' : Str → Way} (h : ∀ c, leT T (costW (o c)) (costW (o' c))) :
    (e.isW = true → leT T (some (f e.id)) (costW (wayFrom o' e.ws))) → ∀ c, leT T (costW (stepL f e o c)) (costW (stepB e o' c)) := by
  intro hf
  cases e with
  | wr id rs ws pr => exact readT (hf rfl) (blockT ok h)
  | qu id cs => exact readT (leT.refl _ _) h
theorem stepLo' {T : Int} {f : Str → Int} {e : Ent} (ok : e.Ok) {o o' : Str → Way} (h : ∀ c, leT T (costW (o c)) (costW (o' c))) :
    (e.isW = true → leT T (costW (wayFrom o e.ws)) (some (f e.id))) → ∀ c, leT T (costW (stepB e o c)) (costW (stepL f e o' c)) := by
  intro hf
  cases e with
  | wr id rs ws pr => exact readT (hf rfl) (blockT ok h)
  | qu id cs => exact readT (leT.refl _ _) h
/-- labels at most the ways that they make -/
def Valid (f : Str → Int) (es : List Ent) : Prop := ∀ x ∈ waysL f es, ∀ k, costW x.2 = some k → f x.1 ≤ k
theorem Valid.tail {f : Str → Int} {e : Ent} {es : List Ent} (h : Valid f (e :: es)) : Valid f es := fun x hx => h x (List.mem_append_left _ hx)
theorem Valid.head {f : Str → Int} {e : Ent} {es : List Ent} (h : Valid f (e :: es)) (hw : e.isW = true) : ∀ k, costW (wayFrom (onL f es) e.ws) = some k → f e.id ≤ k := h (e.id, wayFrom (onL f es) e.ws) (List.mem_append_right _ (by rw [if_pos hw]; exact List.mem_singleton.mpr rfl))
/-- valid labels are at most the costs -/
theorem valid_on {f : Str → Int} : ∀ {es : List Ent}, (∀ e ∈ es, e.Ok) → Valid f es → ∀ T c, leT T (costW (onL f es c)) (costW (onB es c))
  | [], _, _, T, c => leT.refl _ _
  | e :: es, ok, h, T, c => by
    have ih := valid_on (es := es) (fun x hx => ok x (List.mem_cons_of_mem _ hx)) h.tail
    refine stepLo (ok e List.mem_cons_self) (ih T) (fun hw b hb hbT => ?_) c
    obtain ⟨a, ha, hab⟩ := fromT (ih b) (cs := e.ws) b hb (Int.le_refl _)
    have := h.head hw a ha
    exact ⟨f e.id, rfl, by omega⟩
theorem valid_cost {f : Str → Int} {es : List Ent} (ok : ∀ e ∈ es, e.Ok) (h : Valid f es) {i : Nat} {e : Ent} (he : es[i]? = some e) (hw : e.isW = true) {k : Int} (hk : costW (wayFrom (onB (es.drop (i + 1))) e.ws) = some k) : f e.id ≤ k := by
  have sub : ∀ (i : Nat) (es : List Ent), Valid f es → Valid f (es.drop i) := fun i => by
    induction i with
    | zero => intro es h; exact h
    | succ i ih =>
      intro es h
      cases es with
      | nil => exact h
      | cons a es => exact ih es h.tail
  have hv := sub i es h
  rw [drop_cons he] at hv
  obtain ⟨a, ha, hab⟩ := fromT (valid_on (fun x hx => ok x (List.mem_of_mem_drop hx)) hv.tail k) (cs := e.ws) k hk (Int.le_refl _)
  have := hv.head hw a ha
  omega
/-- a cost, cut at B + 1 -/
def capB (B : Int) : Cost → Int
  | none => B + 1
  | some k => min (B + 1) k
/-- the costs cut at B + 1 are valid labels -/
theorem cap_valid {B : Int} {f : Str → Int} : ∀ {es : List Ent}, (∀ e ∈ es, e.Ok) → (∀ x ∈ waysB es, f x.1 = capB B (costW x.2)) → Valid f es ∧ ∀ c, leT B (costW (onB es c)) (costW (onL f es c))
  | [], _, _ => ⟨fun x hx => (by cases hx), fun c => leT.refl _ _⟩
  | e :: es, ok, h => by
    obtain ⟨i1, i2⟩ := cap_valid (es := es) (fun x hx => ok x (List.mem_cons_of_mem _ hx)) fun x hx => h x (List.mem_append_left _ hx)
    have own : e.isW = true → f e.id = capB B (costW (wayFrom (onB es) e.ws)) := fun hw => h (e.id, wayFrom (onB es) e.ws) (List.mem_append_right _ (by rw [if_pos hw]; exact List.mem_singleton.mpr rfl))
    refine ⟨fun x hx k hk => ?_, fun c => stepLo' (ok e List.mem_cons_self) i2 (fun hw b hb hbB => ?_) c⟩
    · rcases List.mem_append.mp hx with h1 | h1
      · exact i1 x h1 k hk
      · cases hw : e.isW with
        | false => rw [hw] at h1; cases h1
        | true =>
          rw [hw, if_pos rfl] at h1
          obtain rfl := List.mem_singleton.mp h1
          have ho := own hw
          dsimp only at hk ⊢
          rcases (show B < k ∨ k ≤ B by omega) with hkB | hkB
          · cases hc : costW (wayFrom (onB es) e.ws) with
            | none => rw [hc] at ho; have : f e.id = B + 1 := ho; omega
            | some a => rw [hc] at ho; have : f e.id = min (B + 1) a := ho; omega
          · obtain ⟨a, ha, hab⟩ := fromT i2 (cs := e.ws) k hk hkB
            rw [ha] at ho
            have : f e.id = min (B + 1) a := ho
            omega
    · have hb : f e.id = b := Option.some.inj hb
      have ho := own hw
      cases hc : costW (wayFrom (onB es) e.ws) with
      | none => rw [hc] at ho; have : f e.id = B + 1 := ho; omega
      | some a => rw [hc] at ho; have : f e.id = min (B + 1) a := ho; exact ⟨a, rfl, by omega⟩
end NV
/-! Rep -/
set_option Elab.async false
set_option linter.all false
set_option maxRecDepth 100000
set_option maxHeartbeats 600000
/-! labels that are repaired until they are valid -/
namespace NV
open PySem PySem.Spec PyProof.Rows L2
theorem offers_least {es : List Ent} {one : Nat} {e : Ent} (he : es[one]? = some e) : Least (fun y => ∃ x ∈ edgesL es one, offerE es x = some y) (wayFrom (onB (es.drop (one + 1))) e.ws) := by
  have h := least_takes (offerE es) (edgesL es one) none (fun _ => False) (fun x h => h)
  rw [offers_way he] at h
  exact h.same fun y => ⟨fun h => h.elim False.elim id, .inr⟩
/-- the cost of the write at i -/
def costAt (es : List Ent) (i : Nat) : Cost := match es[i]? with
  | some e => costW (wayFrom (onB (es.drop (i + 1))) e.ws)
  | none => some 0
/-- the label at the end of an edge -/
def aheadF (es : List Ent) (f : Str → Int) (j : Nat) : Int := match es[j]? with
  | some e => if e.isW then f e.id else 0
  | none => 0
def capT (T : Int) : Cost → Int
  | none => T
  | some k => min T k
theorem capT_le (T : Int) (x : Cost) : capT T x ≤ T := by
  cases x with
  | none => exact Int.le_refl _
  | some k => show min T k ≤ T; omega
theorem rest_cases {es : List Ent} {j : Nat} : (∃ e, es[j]? = some e ∧ e.isW = true ∧ restAt es j = wayFrom (onB (es.drop (j + 1))) e.ws) ∨ (restAt es j = some (0, []) ∧ ∀ f, aheadF es f j = 0) := by
  cases he : es[j]? with
  | none => exact .inr ⟨by unfold restAt; rw [he], fun f => by unfold aheadF; rw [he]⟩
  | some e =>
    cases hw : e.isW with
    | true => exact .inl ⟨e, rfl, hw, by unfold restAt; rw [he]; dsimp only; rw [hw]; rfl⟩
    | false => exact .inr ⟨by unfold restAt; rw [he]; dsimp only; rw [hw]; rfl, fun f => by unfold aheadF; rw [he]; dsimp only; rw [hw]; rfl⟩
/-- labels that are not too low -/
def LowF (T : Int) (f : Str → Int) (es : List Ent) : Prop := ∀ i e, es[i]? = some e → e.isW = true → capT T (costAt es i) ≤ f e.id
/-- labels from i on that are not too high -/
def UpF (f : Str → Int) (es : List Ent) (i : Nat) : Prop := ∀ j e, i ≤ j → es[j]? = some e → e.isW = true → ∀ k, costAt es j = some k → f e.id ≤ k
/-- an edge asks no less than the cost, as far as labels are not too low -/
theorem edge_low {T : Int} {f : Str → Int} {es : List Ent} {one : Nat} {e : Ent} {x : Edge} {s : Int} (hT : 0 ≤ T) (h : LowF T f es) (he : es[one]? = some e) (hx : x ∈ edgesL es one) (hs : total (x.2.2.map (prAt es)) = some s) (s0 : 0 ≤ s) : capT T (costAt es one) ≤ s + aheadF es f x.1 := by
  have hl := offers_least he
  have hc : costAt es one = costW (wayFrom (onB (es.drop (one + 1))) e.ws) := by unfold costAt; rw [he]
  have key : ∀ r : Int × Path, restAt es x.1 = some r → ∃ k, costAt es one = some k ∧ k ≤ s + r.1 := fun r hr => by
    have ho : offerE es x = some (s + r.1, (nmAt es x.1, x.2.1) :: r.2) := by
      unfold offerE
      rw [hs, hr]
    rw [hc]
    cases hw : wayFrom (onB (es.drop (one + 1))) e.ws with
    | none => rw [hw] at hl; exact absurd ⟨x, hx, ho⟩ (hl _)
    | some m =>
      rw [hw] at hl
      exact ⟨m.1, rfl, wayLt_no (by rw [wayLt_eq]; exact hl.2 _ ⟨x, hx, ho⟩)⟩
  rcases rest_cases (es := es) (j := x.1) with ⟨u, hu, huw, hr⟩ | ⟨hr, ha⟩
  · have hf := h x.1 u hu huw
    have hah : aheadF es f x.1 = f u.id := by unfold aheadF; rw [hu]; dsimp only; rw [huw]; rfl
    have hcu : costAt es x.1 = costW (restAt es x.1) := by unfold costAt; rw [hu, hr]
    rw [hah]
    cases hrr : restAt es x.1 with
    | none =>
      rw [hcu, hrr] at hf
      have hf : T ≤ f u.id := hf
      have := capT_le T (costAt es one)
      omega
    | some r =>
      rw [hcu, hrr] at hf
      have hf : min T r.1 ≤ f u.id := hf
      obtain ⟨k, hk, hks⟩ := key r hrr
      rw [hk]
      show min T k ≤ _
      omega
  · rw [ha f]
    obtain ⟨k, hk, hks⟩ := key (0, []) hr
    rw [hk]
    show min T k ≤ _
    have hks : k ≤ s + 0 := hks
    omega
/-- an edge asks no more than what its offer costs, as far as labels are not too high -/
theorem edge_up {f : Str → Int} {es : List Ent} {x : Edge} {r : Int × Path} (h : UpF f es x.1) (hr : restAt es x.1 = some r) : aheadF es f x.1 ≤ r.1 := by
  rcases rest_cases (es := es) (j := x.1) with ⟨u, hu, huw, hr2⟩ | ⟨hr2, ha⟩
  · have hah : aheadF es f x.1 = f u.id := by unfold aheadF; rw [hu]; dsimp only; rw [huw]; rfl
    have hcu : costAt es x.1 = some r.1 := by
      unfold costAt
      rw [hu]
      dsimp only
      rw [← hr2, hr]
      rfl
    rw [hah]
    exact h x.1 u (Nat.le_refl _) hu huw r.1 hcu
  · rw [ha f]
    rw [hr] at hr2
    obtain rfl := Option.some.inj hr2
    exact Int.le_refl _
/-- what the edges ask is the cost -/
theorem edges_cost {es : List Ent} {one : Nat} {e : Ent} {g : Int} (he : es[one]? = some e) (h : ∀ x ∈ edgesL es one, ∀ s r, total (x.2.2.map (prAt es)) = some s → restAt es x.1 = some r → g ≤ s + r.1) : ∀ k, costAt es one = some k → g ≤ k := by
  intro k hk
  have hl := offers_least he
  unfold costAt at hk
  rw [he] at hk
  dsimp only at hk
  cases hw : wayFrom (onB (es.drop (one + 1))) e.ws with
  | none => rw [hw] at hk; cases hk
  | some m =>
    rw [hw] at hl hk
    obtain rfl : m.1 = k := Option.some.inj hk
    obtain ⟨x, hx, ho⟩ := hl.1
    unfold offerE at ho
    cases ht : total (x.2.2.map (prAt es)) with
    | none => rw [ht] at ho; cases ho
    | some s =>
      cases hr : restAt es x.1 with
      | none => rw [ht, hr] at ho; cases ho
      | some r =>
        rw [ht, hr] at ho
        have ho := Option.some.inj ho
        have := h x hx s r ht hr
        rw [← ho]
        exact this
end NV
/-! Rlx -/
set_option Elab.async false
set_option linter.all false
set_option maxRecDepth 100000
set_option maxHeartbeats 600000
/-! usable edges with their costs; costs lowered along edges until none changes -/
namespace NV
open PySem PySem.Spec PyProof.Rows L2
abbrev EdgC := Nat × Nat × Int
def oneK (i j : Nat) : Cost → List EdgC
  | some s => [(i, j, s)]
  | none => []
/-- the edges of the cell c from the position k on, t paid so far -/
def stK (i : Nat) (c : Str) : Nat → Cost → List Ent → List EdgC
  | k, t, [] => oneK i k t
  | k, t, e :: rest => (if c ∈ e.rs then oneK i k t else []) ++ stK i c (k + 1) (if c ∈ e.ws then addC t e.pr else t) rest
def edgK (es : List Ent) (i : Nat) : List EdgC := match es[i]? with
  | some e => e.ws.flatMap fun c => stK i c (i + 1) (some 0) (es.drop (i + 1))
  | none => []
def edgA (es : List Ent) (n : Nat) : List EdgC := (List.range n).flatMap (edgK es)
theorem edgA_succ (es : List Ent) (n : Nat) : edgA es (n + 1) = edgA es n ++ edgK es n := by
  unfold edgA
  rw [List.range_succ, List.flatMap_append]
  simp
def offC (es : List Ent) (x : EdgC) : Cost := addC (some x.2.2) (labAt es x.2.1)
theorem off_one (es : List Ent) (i j : Nat) (t : Cost) : minL ((oneK i j t).map (offC es)) = addC t (labAt es j) := by
  cases t with
  | none => cases labAt es j <;> rfl
  | some s => exact minC_none _
theorem st_min (es : List Ent) (i : Nat) (c : Str) : ∀ (rest : List Ent) (k : Nat) (t : Cost), es.drop k = rest → minL ((stK i c k t rest).map (offC es)) = addC t (costW (onB rest c))
  | [], k, t, h => by
    have hk : es[k]? = none := by
      rw [List.getElem?_eq_none]
      have := congrArg List.length h
      rw [List.length_drop] at this
      simp at this
      omega
    show minL ((oneK i k t).map (offC es)) = _
    rw [off_one]
    unfold labAt
    rw [hk]
    rfl
  | e :: rest, k, t, h => by
    have hlt : k < es.length := by
      rcases Nat.lt_or_ge k es.length with h1 | h1
      · exact h1
      · rw [List.drop_eq_nil_of_le h1] at h; cases h
    rw [List.drop_eq_getElem_cons hlt] at h
    obtain ⟨he, hr⟩ := List.cons.inj h
    have hk : es[k]? = some e := by rw [List.getElem?_eq_getElem hlt, he]
    have ih := st_min es i c rest (k + 1) (if c ∈ e.ws then addC t e.pr else t) hr
    have hl : labAt es k = labE e rest := by
      unfold labAt labE
      rw [hk, hr]
    have hb : addC (if c ∈ e.ws then addC t e.pr else t) (costW (onB rest c)) = addC t (blkE e rest c) := by
      unfold blkE
      by_cases hc : c ∈ e.ws
      · rw [if_pos hc, if_pos hc, addC_assoc]
      · rw [if_neg hc, if_neg hc]
    rw [hb] at ih
    rw [cost_on]
    show minL (((if c ∈ e.rs then oneK i k t else []) ++ stK i c (k + 1) (if c ∈ e.ws then addC t e.pr else t) rest).map (offC es)) = _
    rw [List.map_append, minL_app, ih]
    by_cases hc : c ∈ e.rs
    · rw [if_pos hc, if_pos hc, addC_min, off_one, hl]
    · rw [if_neg hc, if_neg hc]
      rfl
theorem edgK_min {es : List Ent} {i : Nat} {e : Ent} (h : es[i]? = some e) : minL ((edgK es i).map (offC es)) = costW (wayFrom (onB (es.drop (i + 1))) e.ws) := by
  unfold edgK
  rw [h, from_min]
  dsimp only
  generalize e.ws = cs
  induction cs with
  | nil => rfl
  | cons c cs ih =>
    rw [List.flatMap_cons, List.map_append, minL_app, ih, List.map_cons]
    show _ = minC _ (minL (cs.map _))
    congr 1
    rw [st_min es i c _ _ _ rfl]
    exact addC_zero _
theorem edgK_query {es : List Ent} {i : Nat} {e : Ent} (h : es[i]? = some e) (hw : e.isW = false) : edgK es i = [] := by
  unfold edgK
  rw [h]
  cases e with
  | wr => cases hw
  | qu => rfl
/-! ### bounds -/
theorem mem_oneK {i j : Nat} {t : Cost} {x : EdgC} (h : x ∈ oneK i j t) : x.1 = i ∧ x.2.1 = j ∧ t = some x.2.2 := by
  cases t with
  | none => cases h
  | some s => rw [List.mem_singleton.mp h]; exact ⟨rfl, rfl, rfl⟩
def NnC : Cost → Prop := fun t => ∀ s, t = some s → 0 ≤ s
theorem nn_add {x y : Cost} (hx : NnC x) (hy : NnC y) : NnC (addC x y) := fun s h => by
  match x, y, h with
  | some a, some b, h =>
    obtain rfl : a + b = s := Option.some.inj h
    have := hx a rfl
    have := hy b rfl
    omega
  | none, none, h => cases h
  | none, some b, h => cases h
  | some a, none, h => cases h
theorem nn_pr {e : Ent} (ok : e.Ok) : NnC e.pr := fun s h => by
  have := ok.prOk s h
  omega
theorem st_mem {i : Nat} {c : Str} : ∀ (rest : List Ent) (k : Nat) (t : Cost), (∀ e ∈ rest, e.Ok) → NnC t → ∀ x ∈ stK i c k t rest, x.1 = i ∧ k ≤ x.2.1 ∧ x.2.1 ≤ k + rest.length ∧ 0 ≤ x.2.2
  | [], k, t, _, ht, x, hx => by
    obtain ⟨h1, h2, h3⟩ := mem_oneK hx
    exact ⟨h1, by omega, by simp; omega, ht _ h3⟩
  | e :: rest, k, t, ok, ht, x, hx => by
    rcases List.mem_append.mp hx with z | z
    · by_cases hc : c ∈ e.rs
      · rw [if_pos hc] at z
        obtain ⟨h1, h2, h3⟩ := mem_oneK z
        exact ⟨h1, by omega, by omega, ht _ h3⟩
      · rw [if_neg hc] at z; cases z
    · have ht' : NnC (if c ∈ e.ws then addC t e.pr else t) := by
        by_cases hc : c ∈ e.ws
        · rw [if_pos hc]; exact nn_add ht (nn_pr (ok e List.mem_cons_self))
        · rw [if_neg hc]; exact ht
      obtain ⟨h1, h2, h3, h4⟩ := st_mem rest (k + 1) _ (fun e h => ok e (List.mem_cons_of_mem _ h)) ht' x z
      exact ⟨h1, by omega, by simp; omega, h4⟩
theorem edgK_mem {es : List Ent} (ok : ∀ e ∈ es, e.Ok) {i : Nat} : ∀ x ∈ edgK es i, x.1 = i ∧ i < x.2.1 ∧ x.2.1 ≤ es.length ∧ 0 ≤ x.2.2 := fun x hx => by
  unfold edgK at hx
  cases he : es[i]? with
  | none => rw [he] at hx; cases hx
  | some e =>
    rw [he] at hx
    obtain ⟨c, hc, h⟩ := List.mem_flatMap.mp hx
    have hi := (List.getElem?_eq_some_iff.mp he).1
    obtain ⟨h1, h2, h3, h4⟩ := st_mem _ _ _ (fun e h => ok e (List.drop_subset _ _ h)) (fun s h => by cases h; exact Int.le_refl _) x h
    rw [List.length_drop] at h3
    exact ⟨h1, by omega, by omega, h4⟩
theorem oneK_len (i j : Nat) (t : Cost) : (oneK i j t).length ≤ 1 := by cases t <;> simp [oneK]
theorem st_len (i : Nat) (c : Str) : ∀ (rest : List Ent) (k : Nat) (t : Cost), (stK i c k t rest).length ≤ rest.length + 1
  | [], k, t => oneK_len _ _ _
  | e :: rest, k, t => by
    show ((if c ∈ e.rs then oneK i k t else []) ++ _).length ≤ _
    rw [List.length_append]
    have := st_len i c rest (k + 1) (if c ∈ e.ws then addC t e.pr else t)
    by_cases hc : c ∈ e.rs
    · rw [if_pos hc]
      have := oneK_len i k t
      simp only [List.length_cons]
      omega
    · rw [if_neg hc]
      simp only [List.length_cons, List.length_nil]
      omega
/-! ### costs lowered along edges -/
def minC_comm (x y : Cost) : minC x y = minC y x := by
  cases x <;> cases y <;> simp [minC, Int.min_comm]
theorem minL_rev (l : List Cost) : minL l.reverse = minL l := by
  induction l with
  | nil => rfl
  | cons x l ih =>
    rw [List.reverse_cons, minL_app, ih, minC_comm]
    show minC (minC x none) _ = minC x _
    rw [minC_none]
abbrev farK : Int := 10 ^ 9
def cutC : Cost → Cost
  | some k => if k < farK then some k else none
  | none => none
def relax (g : Nat → Cost) (x : EdgC) : Nat → Cost := match g x.2.1 with
  | some b => if b + x.2.2 < (g x.1).getD farK then fun k => if k = x.1 then some (b + x.2.2) else g k else g
  | none => g
theorem cut_some {y : Cost} {b : Int} (h : cutC y = some b) : y = some b ∧ b < farK := by
  cases y with
  | none => cases h
  | some k =>
    unfold cutC at h
    by_cases hk : k < farK
    · simp only [if_pos hk] at h; cases h; exact ⟨rfl, hk⟩
    · simp only [if_neg hk] at h; cases h
theorem cut_none {y : Cost} (h : cutC y = none) : ∀ k, y = some k → farK ≤ k := fun k e => by
  subst e
  unfold cutC at h
  by_cases hk : k < farK
  · simp only [if_pos hk] at h; cases h
  · omega
theorem cut_of {k : Int} (h : k < farK) : cutC (some k) = some k := if_pos h
theorem cut_far {y : Cost} (h : ∀ k, y = some k → farK ≤ k) : cutC y = none := by
  cases y with
  | none => rfl
  | some k => exact if_neg (by have := h k rfl; omega)
theorem relax_cut {g : Nat → Cost} {x : EdgC} {a L : Cost} (hi : g x.1 = cutC a) (hj : g x.2.1 = cutC L) (s0 : 0 ≤ x.2.2) : relax g x = fun k => if k = x.1 then cutC (minC a (addC (some x.2.2) L)) else g k := by
  have stay : cutC (minC a (addC (some x.2.2) L)) = cutC a → g = fun k => if k = x.1 then cutC (minC a (addC (some x.2.2) L)) else g k := fun e => by
    funext k
    by_cases hk : k = x.1
    · rw [if_pos hk, e, hk, hi]
    · rw [if_neg hk]
  unfold relax
  rw [hj]
  cases hL : cutC L with
  | none =>
    refine stay ?_
    have hf := cut_none hL
    cases L with
    | none =>
      show cutC (minC a none) = _
      rw [minC_none]
    | some k =>
      have hk := hf k rfl
      show cutC (minC a (some (x.2.2 + k))) = _
      cases a with
      | none =>
        show cutC (some (x.2.2 + k)) = none
        exact cut_far fun z e => by cases e; omega
      | some b =>
        show cutC (some (min b (x.2.2 + k))) = cutC (some b)
        by_cases hb : b < farK
        · rw [show min b (x.2.2 + k) = b by omega]
        · rw [cut_far (fun z e => by cases e; omega), cut_far (fun z e => by cases e; omega)]
  | some b =>
    obtain ⟨rfl, hb⟩ := cut_some hL
    dsimp only
    show (if b + x.2.2 < (g x.1).getD farK then _ else _) = _
    rw [hi]
    have e1 : addC (some x.2.2) (some b) = some (b + x.2.2) := by show some (x.2.2 + b) = _; rw [Int.add_comm]
    by_cases hlt : b + x.2.2 < (cutC a).getD farK
    · rw [if_pos hlt]
      funext k
      by_cases hk : k = x.1
      · rw [if_pos hk, if_pos hk, e1]
        cases a with
        | none =>
          have : b + x.2.2 < farK := hlt
          exact (cut_of this).symm
        | some a' =>
          by_cases ha : a' < farK
          · rw [cut_of ha] at hlt
            have hlt : b + x.2.2 < a' := hlt
            show _ = cutC (some (min a' (b + x.2.2)))
            rw [show min a' (b + x.2.2) = b + x.2.2 by omega, cut_of (by omega)]
          · rw [cut_far (fun z e => by cases e; omega)] at hlt
            have hlt : b + x.2.2 < farK := hlt
            show _ = cutC (some (min a' (b + x.2.2)))
            rw [show min a' (b + x.2.2) = b + x.2.2 by omega, cut_of (by omega)]
      · rw [if_neg hk, if_neg hk]
    · rw [if_neg hlt]
      refine stay ?_
      rw [e1]
      cases a with
      | none =>
        have hlt : ¬ b + x.2.2 < farK := hlt
        exact cut_far fun z e => by cases e; omega
      | some a' =>
        show cutC (some (min a' (b + x.2.2))) = _
        by_cases ha : a' < farK
        · rw [cut_of ha] at hlt
          have hlt : ¬ b + x.2.2 < a' := hlt
          rw [show min a' (b + x.2.2) = a' by omega]
        · rw [cut_far (y := some a') (fun z e => by cases e; omega)] at hlt
          have hlt : ¬ b + x.2.2 < farK := hlt
          rw [cut_far (fun z e => by cases e; omega), cut_far (fun z e => by cases e; omega)]
theorem relax_same {es : List Ent} {i : Nat} : ∀ (l : List EdgC) (g : Nat → Cost) (a : Cost), (∀ x ∈ l, x.1 = i ∧ x.2.1 ≠ i ∧ 0 ≤ x.2.2) → g i = cutC a → (∀ x ∈ l, g x.2.1 = cutC (labAt es x.2.1)) →
    l.foldl relax g = fun k => if k = i then cutC (minC a (minL (l.map (offC es)))) else g k
  | [], g, a, _, hi, _ => by
    funext k
    show g k = _
    by_cases hk : k = i
    · rw [if_pos hk, hk, hi]
      show _ = cutC (minC a none)
      rw [minC_none]
    · rw [if_neg hk]
  | x :: l, g, a, hl, hi, hj => by
    obtain ⟨h1, h2, h3⟩ := hl x List.mem_cons_self
    rw [List.foldl_cons, relax_cut (by rw [h1]; exact hi) (hj x List.mem_cons_self) h3, h1]
    rw [relax_same (es := es) l _ (minC a (addC (some x.2.2) (labAt es x.2.1))) (fun y hy => hl y (List.mem_cons_of_mem _ hy)) (if_pos rfl) (fun y hy => by
      show (if y.2.1 = i then _ else g y.2.1) = _
      rw [if_neg (hl y (List.mem_cons_of_mem _ hy)).2.1]
      exact hj y (List.mem_cons_of_mem _ hy))]
    funext k
    by_cases hk : k = i
    · rw [if_pos hk, if_pos hk, List.map_cons, minC_assoc]
      rfl
    · rw [if_neg hk, if_neg hk, if_neg hk]
/-- where the costs begin -/
def gA (es : List Ent) (k : Nat) : Cost := match es[k]? with
  | some e => if e.isW then none else some 0
  | none => if k = es.length then some 0 else none
def gZ (es : List Ent) (m k : Nat) : Cost := if m ≤ k then (if k ≤ es.length then cutC (labAt es k) else none) else gA es k
theorem gZ_start (es : List Ent) : gZ es es.length = gA es := by
  funext k
  unfold gZ
  by_cases h : es.length ≤ k
  · rw [if_pos h]
    unfold gA
    rw [List.getElem?_eq_none h]
    by_cases h2 : k = es.length
    · rw [if_pos (by omega)]
      dsimp only
      rw [if_pos h2]
      unfold labAt
      rw [List.getElem?_eq_none h]
      rfl
    · rw [if_neg (by omega)]
      dsimp only
      rw [if_neg h2]
  · rw [if_neg h]
theorem relax_pass {es : List Ent} (ok : ∀ e ∈ es, e.Ok) : ∀ m, m ≤ es.length → (edgA es m).reverse.foldl relax (gZ es m) = gZ es 0
  | 0, _ => rfl
  | m + 1, h => by
    obtain ⟨e, he⟩ : ∃ e, es[m]? = some e := ⟨_, List.getElem?_eq_getElem (by omega)⟩
    have mem := edgK_mem ok (i := m)
    rw [edgA_succ, List.reverse_append, List.foldl_append, ← relax_pass ok m (by omega)]
    congr 1
    have gm : gZ es (m + 1) m = gA es m := if_neg (by omega)
    have lab : labAt es m = if e.isW then costW (wayFrom (onB (es.drop (m + 1))) e.ws) else some 0 := by unfold labAt; rw [he]
    have start : gA es m = if e.isW then none else some 0 := by unfold gA; rw [he]
    have other : ∀ k, k ≠ m → gZ es (m + 1) k = gZ es m k := fun k hk => by
      unfold gZ
      by_cases h1 : m + 1 ≤ k
      · rw [if_pos h1, if_pos (show m ≤ k by omega)]
      · rw [if_neg h1, if_neg (show ¬ m ≤ k by omega)]
    have here : gZ es m m = cutC (labAt es m) := by
      unfold gZ
      rw [if_pos (Nat.le_refl _), if_pos (by omega)]
    cases hw : e.isW with
    | false =>
      rw [edgK_query he hw]
      funext k
      show gZ es (m + 1) k = _
      by_cases hk : k = m
      · rw [hk, gm, here, lab, start, hw]
        rfl
      · exact other k hk
    | true =>
      rw [relax_same (es := es) (i := m) (edgK es m).reverse (gZ es (m + 1)) none (fun x hx => by
          obtain ⟨h1, h2, _, h4⟩ := mem x (List.mem_reverse.mp hx)
          exact ⟨h1, by omega, h4⟩) (by rw [gm, start, hw]; rfl) (fun x hx => by
          obtain ⟨h1, h2, h3, h4⟩ := mem x (List.mem_reverse.mp hx)
          unfold gZ
          rw [if_pos (by omega), if_pos h3])]
      funext k
      by_cases hk : k = m
      · rw [if_pos hk, hk, here, lab, hw, List.map_reverse, minL_rev, edgK_min he]
        show cutC (minC none _) = _
        rw [minC_comm, minC_none]
        rfl
      · rw [if_neg hk]
        exact other k hk
theorem relax_stay {es : List Ent} (ok : ∀ e ∈ es, e.Ok) {x : EdgC} (hx : x ∈ edgA es es.length) : ∀ b, gZ es 0 x.2.1 = some b → ¬ b + x.2.2 < (gZ es 0 x.1).getD farK := fun b hb hlt => by
  obtain ⟨i, hi, hx⟩ := List.mem_flatMap.mp hx
  obtain ⟨h1, h2, h3, h4⟩ := edgK_mem ok x hx
  have hi := List.mem_range.mp hi
  obtain ⟨e, he⟩ : ∃ e, es[i]? = some e := ⟨_, List.getElem?_eq_getElem hi⟩
  have hw : e.isW = true := by
    cases hw : e.isW with
    | true => rfl
    | false => rw [edgK_query he hw] at hx; cases hx
  have gj : gZ es 0 x.2.1 = cutC (labAt es x.2.1) := by unfold gZ; rw [if_pos (Nat.zero_le _), if_pos h3]
  have gi : gZ es 0 x.1 = cutC (labAt es i) := by unfold gZ; rw [if_pos (Nat.zero_le _), h1, if_pos (by omega)]
  rw [gj] at hb
  obtain ⟨hL, hbT⟩ := cut_some hb
  rw [gi] at hlt
  have hmem : some (b + x.2.2) ∈ (edgK es i).map (offC es) := List.mem_map.mpr ⟨x, hx, by unfold offC; rw [hL]; show some (x.2.2 + b) = _; rw [Int.add_comm]⟩
  have hmin := edgK_min he
  have lab : labAt es i = costW (wayFrom (onB (es.drop (i + 1))) e.ws) := by unfold labAt; rw [he]; dsimp only; rw [hw]; rfl
  rw [← lab] at hmin
  cases hm : minL ((edgK es i).map (offC es)) with
  | none =>
    have : ∀ (l : List Cost) (y : Int), some y ∈ l → minL l ≠ none := fun l => by
      induction l with
      | nil => intro y h; cases h
      | cons a l ih =>
        intro y h e
        have e : minC a (minL l) = none := e
        rcases List.mem_cons.mp h with z | z
        · subst z
          cases hl : minL l with
          | none => rw [hl] at e; cases e
          | some q => rw [hl] at e; cases e
        · cases hl : minL l with
          | none => exact ih y z hl
          | some q => rw [hl] at e; cases a <;> cases e
    exact this _ _ hmem hm
  | some a =>
    have hle := (minL_some.mp hm).2 _ hmem
    rw [hm] at hmin
    rw [← hmin] at hlt
    by_cases ha : a < farK
    · rw [cut_of ha] at hlt
      have hlt : b + x.2.2 < a := hlt
      omega
    · rw [cut_far (fun z e => by cases e; omega)] at hlt
      have hlt : b + x.2.2 < farK := hlt
      omega
/-- kept by the costs -/
def keptG (B : Int) (es : List Ent) (k : Nat) : Bool := decide ((gZ es 0 k).getD farK ≤ B)
theorem keptG_is {B : Int} (h : B < farK) (B0 : 0 ≤ B) {es : List Ent} {k : Nat} {e : Ent} (he : es[k]? = some e) : keptG B es k = keeps B e (onB (es.drop (k + 1))) := by
  have hk := (List.getElem?_eq_some_iff.mp he).1
  have g0 : gZ es 0 k = cutC (labAt es k) := by unfold gZ; rw [if_pos (Nat.zero_le _), if_pos (by omega)]
  have lab : labAt es k = if e.isW then costW (wayFrom (onB (es.drop (k + 1))) e.ws) else some 0 := by unfold labAt; rw [he]
  unfold keptG keeps
  rw [g0, lab]
  cases hw : e.isW with
  | false =>
    show decide ((some (0 : Int)).getD farK ≤ B) = true
    exact decide_eq_true B0
  | true =>
    show decide ((cutC (costW (wayFrom (onB (es.drop (k + 1))) e.ws))).getD farK ≤ B) = within B (costW _)
    cases hc : costW (wayFrom (onB (es.drop (k + 1))) e.ws) with
    | none =>
      show decide (farK ≤ B) = false
      exact decide_eq_false (by omega)
    | some a =>
      show decide ((cutC (some a)).getD farK ≤ B) = decide (a ≤ B)
      by_cases ha : a < farK
      · rw [cut_of ha]; rfl
      · rw [cut_far (fun z e => by cases e; omega)]
        rw [show decide (a ≤ B) = false from decide_eq_false (by omega)]
        exact decide_eq_false (show ¬ farK ≤ B by omega)
theorem kept_by {B : Int} (h : B < farK) (B0 : 0 ≤ B) (es : List Ent) : ∀ n, n ≤ es.length → keptO B (es.drop n) endW = ((List.range' n (es.length - n)).filter (keptG B es)).filterMap fun k => es[k]? := by
  intro n hn
  generalize hm : es.length - n = m
  induction m generalizing n with
  | zero =>
    rw [List.drop_eq_nil_of_le (by omega)]
    rfl
  | succ m ih =>
    have hlt : n < es.length := by omega
    have he : es[n]? = some es[n] := List.getElem?_eq_getElem hlt
    rw [List.drop_eq_getElem_cons hlt, List.range'_succ, List.filter_cons, keptG_is h B0 he]
    have := ih (n + 1) (by omega) (by omega)
    show (if keeps B es[n] (onF (es.drop (n + 1)) endW) then [es[n]] else []) ++ keptO B (es.drop (n + 1)) endW = _
    rw [← onB_F, this]
    cases hk : keeps B es[n] (onB (es.drop (n + 1))) with
    | true => rw [if_pos rfl, if_pos rfl, List.filterMap_cons, he]; rfl
    | false => rw [if_neg Bool.false_ne_true, if_neg Bool.false_ne_true]; rfl
end NV
/-! RevE -/
set_option Elab.async false
set_option linter.all false
set_option maxRecDepth 100000
set_option maxHeartbeats 400000
namespace NV
open PySem PySem.Spec PyProof.Rows L2
theorem pe_revLE {X : Cx} (K : PySem.W.Frag) {e : Expr} {te : TE} {k : Nat} {p1 p2 p3 pos : Pos} (he : PE X e te) (h : X.K = K := by rfl) : PE X (.Subscript e (.Slice none none (some (.UnaryOp .USub (.Constant (.int 1) k p1) p2)) p3) pos) (tRevL K te) := by
  rw [← h]; exact pe_revL he
end NV
/-! EdgK -/
set_option Elab.async false
set_option linter.all false
set_option maxRecDepth 100000
set_option maxHeartbeats 1000000
/-! the law's _law_edges: all usable edges with their costs -/
namespace NV
open PySem PySem.Spec PyProof.Rows L2
open C8 (pss_cut pe_gc)
abbrev sLawEdges : Stmt := topS 75
theorem scLawEdges : FnScope ["entries", "found", "start", "cell", "cost", "stop"] ["entries"] (defScope sLawEdges) := ⟨rfl, rfl, rfl, by decide +kernel, rfl, by decide +kernel, by decide +kernel⟩
def edgKD (x : EdgC) : PyData := .tuple [.int x.1, .int x.2.1, .int x.2.2]
def costV2 : Cost → V
  | none => .non
  | some s => .int s
def stR (es : List Ent) (i : Nat) (c : Str) (k : Nat) (t : Cost) : List EdgC := if k ≤ es.length then stK i c k t (es.drop k) else []
theorem stR_end {es : List Ent} {i : Nat} {c : Str} {k : Nat} {t : Cost} (h : k = es.length) : stR es i c k t = oneK i k t := by
  unfold stR
  rw [if_pos (by omega), h, List.drop_length]
  rfl
theorem stR_past {es : List Ent} {i : Nat} {c : Str} {k : Nat} {t : Cost} (h : es.length < k) : stR es i c k t = [] := by
  unfold stR
  rw [if_neg (by omega)]
theorem stR_step {es : List Ent} {i : Nat} {c : Str} {k : Nat} {t : Cost} {e : Ent} (h : es[k]? = some e) : stR es i c k t = (if c ∈ e.rs then oneK i k t else []) ++ stR es i c (k + 1) (if c ∈ e.ws then addC t e.pr else t) := by
  obtain ⟨hk, he⟩ := List.getElem?_eq_some_iff.mp h
  unfold stR
  rw [if_pos (show k ≤ es.length by omega), if_pos (show k + 1 ≤ es.length by omega), List.drop_eq_getElem_cons hk, he]
  rfl
theorem twice2 {A : Prop} {S G : Addr → Hp → Prop} (main : (∀ p H, S p H → G p H) → A) (key : ∀ p H, S p H → G p H) : A := main key
theorem RpAll.rev {ex : List Addr} {H : Hp} : ∀ {ds : List PyData} {xs : List V}, RpAll ex H ds xs → RpAll ex H ds.reverse xs.reverse
  | [], xs, h => by
    obtain rfl : xs = [] := h
    exact rfl
  | d :: ds, xs, h => by
    obtain ⟨v, vs, rfl, r, rs⟩ := h
    rw [List.reverse_cons, List.reverse_cons]
    exact (RpAll.rev rs).app (RpAll.one r)
def stNow (es : List Ent) (i : Nat) (c : Str) (k : Nat) (t : Cost) : List EdgC := match es[k]? with
  | some e => if c ∈ e.rs then oneK i k t else []
  | none => oneK i k t
def nextT (es : List Ent) (c : Str) (k : Nat) (t : Cost) : Cost := match es[k]? with
  | some e => if c ∈ e.ws then addC t e.pr else t
  | none => t
theorem stR_eq {es : List Ent} {i : Nat} {c : Str} {k : Nat} {t : Cost} (h : k ≤ es.length) : stR es i c k t = stNow es i c k t ++ stR es i c (k + 1) (nextT es c k t) := by
  rcases Nat.lt_or_ge k es.length with hlt | hge
  · have he : es[k]? = some es[k] := List.getElem?_eq_getElem hlt
    rw [stR_step he]
    unfold stNow nextT
    rw [he]
  · have e1 : k = es.length := by omega
    rw [stR_end e1, stR_past (k := k + 1) (by omega)]
    unfold stNow
    rw [List.getElem?_eq_none hge, List.append_nil]
theorem stNow_none (es : List Ent) (i : Nat) (c : Str) (k : Nat) : stNow es i c k none = [] := by
  unfold stNow
  cases es[k]? with
  | none => rfl
  | some e => show (if c ∈ e.rs then [] else []) = []; split <;> rfl
/-- the cells that the entry at k writes, or an empty tuple -/
theorem ws_or {K : PySem.W.Frag} {ex : List Addr} {σ : L2.St} {H : Hp} {a : Addr} {xs : List V} {es : List Ent} {e : Ent} {k i : Nat} {Q : VK} (s0 : σ[0]? = some (some (.ref a))) (si : σ[i]? = some (some (.int (k : Nat)))) (ha : H a = some (.tup xs)) (hx : RpAll ex H (es.map Ent.data) xs) (he : es[k]? = some e) (line : 0 ≤ sizeLine)
    (q : ∀ wa Hm, Kp [] H Hm → Hm wa = some (.tup (e.ws.map V.str)) → (∀ b, H b ≠ none → b ∈ ex → wa ≠ b) → Q (.ref wa) Hm) :
    tIf (tTest (tOp rEq (tOp (rIxT K) (tOp (rIxT K) (tVar 0) (tVar i)) (tC (V.int 0))) (tC (V.str (Str.ofString "write"))))) (tOp (rIxT K) (tOp (rIxT K) (tVar 0) (tVar i)) (tC (V.int 3))) (tTup tNil) σ H Q := by
  obtain ⟨d0, ed0, hd0⟩ := ent_kind e
  refine ⟨_, s0, _, si, ix_ent ha hx he fun ve re => c_of (ent_ix re ed0 hd0 rfl fun vk rk => ?_)⟩
  obtain rfl : vk = .str (if e.isW then "write" else "query") := rk
  refine ⟨rfl, _, rfl, ?_⟩
  rw [kind_w]
  cases hw : e.isW with
  | true =>
    obtain ⟨ds, ed, hd3, _⟩ := ent_writes hw
    refine iteT ⟨_, s0, _, si, ix_ent ha hx he fun ve re => c_of (ent_ix re ed hd3 rfl fun u ru => ?_)⟩
    obtain ⟨wa, cs, rfl, nwa, hwa, hcs⟩ := ru
    obtain rfl := strs_of hcs
    exact q wa H Kp.refl hwa fun b _ hb z => nwa (by rw [z]; exact hb)
  | false =>
    have hws : e.ws = [] := by cases e with
      | wr => cases hw
      | qu => rfl
    refine iteF ⟨line, fun wa nwa => ?_⟩
    exact q wa _ (Kp.laid nwa) (by rw [hws]; exact upd_same) fun b hb _ z => hb (by rw [← z]; exact nwa)
def spEdgK : Sp := fun vs H Q _ => ∃ (v : V) (es : List Ent) (ex : List Addr), vs = [v] ∧ Rp ex H (logD es) v ∧ (∀ e ∈ es, e.Ok) ∧ es.length ≤ 60 ∧ Live ex H ∧
  ∀ fo xs H', Kp [] H H' → H fo = none → H' fo = some (.lst xs) → RpAll ex H' ((edgA es es.length).reverse.map edgKD) xs → Q (.ref fo) H'
section
variable {P : Program} {w : World} {K : PySem.W.Frag} {mg : Str → Option Value} {base : Heap}
theorem ok_edgk (DLawEdges : Fn K mg "_law_edges" sLawEdges ["entries"]) (b_range : mg "range" = none) (b_len : mg "len" = none) :
    FnOk P w K mg base CX0 1 DLawEdges.f DLawEdges.fd ["entries"] spEdgK := by
  refine DLawEdges.F.ok scLawEdges (fun vs H Q E h => ?_) (fun cdv A outer s H vs Q E hr h => ?_)
  · obtain ⟨v, es, ex, rfl, _⟩ := h
    rfl
  obtain ⟨v, es, ex, rfl, rv, ok, h60, lv, q⟩ := h
  refine ⟨_, pss_cons (ps_set (i := 1) scLawEdges.nd rfl (.inl rfl) (pe_lst pa_nil))
      (pss_cons (ps_for PassesOwn.never rfl (pi_range1 rfl b_range (pa_cons (pe_callB (lenE K) (by rfl) b_len (by decide +kernel) (pa_cons (pv 0) pa_nil)) pa_nil)) (pg_name (i := 2) scLawEdges.nd rfl (.inl rfl))
      (pss_one (ps_for PassesOwn.never rfl (piTupE K (pe_ifExp (pt_cmpR op_eq (pe_ix (ixtE K) (pe_ix (ixtE K) (pv 0) (pv 2) (fun _ _ => rfl)) pe_int (fun _ _ => rfl)) pe_str (nomark _)) (pe_ix (ixtE K) (pe_ix (ixtE K) (pv 0) (pv 2) (fun _ _ => rfl)) pe_int (fun _ _ => rfl)) (pe_tup pa_nil))) (pg_name (i := 3) scLawEdges.nd rfl (.inl rfl))
      (pss_cons (ps_set (i := 4) scLawEdges.nd rfl (.inl rfl) pe_int)
      (pss_one (ps_for PassesOwn.never rfl (pi_range2 rfl b_range (pa_cons (pe_op op_add (pv 2) pe_int) (pa_cons (pe_op op_add (pe_callB (lenE K) (by rfl) b_len (by decide +kernel) (pa_cons (pv 0) pa_nil)) pe_int) pa_nil))) (pg_name (i := 5) scLawEdges.nd rfl (.inl rfl))
      (pss_cut (ps_if (PW.pt (pw_and (pt_cmpR op_notN (pv 4) pe_non (nomark _)) (pw_and1 (PW.pt (pw_or (pt_cmpR op_eq (pv 5) (pe_callB (lenE K) (by rfl) b_len (by decide +kernel) (pa_cons (pv 0) pa_nil)) (nomark _)) (pw_or1 (pt_cmpR (inE K) (pv 3) (pe_ix (ixtE K) (pe_ix (ixtE K) (pv 0) (pv 5) (fun _ _ => rfl)) pe_int (fun _ _ => rfl)) (by rfl))))))))
      (pss_one (ps_expr (bmE K PySem.F.plainAttrs_list PySem.F.slot_list_append PySem.F.type_list_append mt_append (pv 1) (pa_cons (pe_tup (pa_cons (pv 2) (pa_cons (pv 5) (pa_cons (pv 4) pa_nil)))) pa_nil))))
      pss_nil)
      (pss_one (ps_if (PW.pt (pw_and (pt_cmpR op_lt (pv 5) (pe_callB (lenE K) (by rfl) b_len (by decide +kernel) (pa_cons (pv 0) pa_nil)) (nomark _)) (pw_and (pt_cmpR op_eq (pe_ix (ixtE K) (pe_ix (ixtE K) (pv 0) (pv 5) (fun _ _ => rfl)) pe_int (fun _ _ => rfl)) pe_str (nomark _)) (pw_and1 (pt_cmpR (inE K) (pv 3) (pe_ix (ixtE K) (pe_ix (ixtE K) (pv 0) (pv 5) (fun _ _ => rfl)) pe_int (fun _ _ => rfl)) (by rfl))))))
      (pss_one (ps_set (i := 4) scLawEdges.nd rfl (.inl rfl) (pe_ifExp (PW.pt (pw_or (pt_cmpR op_isN (pv 4) pe_non (nomark _)) (pw_or1 (pt_cmpR op_isN (pe_ix (ixtE K) (pe_ix (ixtE K) (pv 0) (pv 5) (fun _ _ => rfl)) pe_int (fun _ _ => rfl)) pe_non (nomark _))))) pe_non (pe_op op_add (pv 4) (pe_ix (ixtE K) (pe_ix (ixtE K) (pv 0) (pv 5) (fun _ _ => rfl)) pe_int (fun _ _ => rfl))))))
      pss_nil)))))))))
      (pss_one (ps_ret (pe_revLE K (pv 1))))), ?_⟩
  refine ⟨Nat.zero_le _, fun fo nfo => ?_⟩
  have line : (100000 : Nat) < sizeLine := by decide
  have k0 : Kp [] H (upd H fo (.lst [])) := Kp.laid nfo
  have rv0 := Rp.keep (k0.mono (by simp)) _ _ (Rp.apart nfo _ _ rv)
  have lv0 : Live (fo :: ex) (upd H fo (.lst [])) := fun b hb => by
    rcases List.mem_cons.mp hb with z | z
    · rw [z, upd_same]; exact fun q => by cases q
    · exact lv.kp0 k0 b z
  have hf0 : (upd H fo (.lst [])) fo = some (.lst []) := upd_same
  obtain ⟨H0, e0⟩ : ∃ H0, upd H fo (.lst []) = H0 := ⟨_, rfl⟩
  rw [e0] at k0 rv0 lv0 hf0 ⊢
  obtain ⟨a, xs, rfl, na, ha, hx⟩ := rv0
  have naf : a ≠ fo := fun z => na (by rw [z]; simp)
  have hl : es.length = xs.length := by
    have := hx.length
    rwa [List.length_map] at this
  have kf : ∀ {H' : Hp}, Kp [fo] H0 H' → Kp (fo :: ex) H0 H' := fun k => k.mono (by simp)
  have back : ∀ {H' : Hp}, Kp [fo] H0 H' → Kp [] H H' := fun k => by
    have a : Kp [fo] H _ := (k0.mono (by simp)).trans k
    exact Kp.drop a nfo
  have hal : ∀ {H' : Hp}, Kp [fo] H0 H' → H' a = some (.tup xs) := fun k => k _ _ (by simpa using naf) ha
  have hxl : ∀ {H' : Hp}, Kp [fo] H0 H' → RpAll (fo :: ex) H' (es.map Ent.data) xs := fun k => RpAll.keep (kf k) _ _ hx
  have live : ∀ {Hc : Hp}, Kp [fo] H0 Hc → Hc fo ≠ none → Live (fo :: ex) Hc := fun k4 hf b hbm z => by
    by_cases h2 : b = fo
    · rw [h2] at z; exact hf z
    · cases h0 : H0 b with
      | none => exact lv0 b hbm h0
      | some u => rw [k4 b u (by simp [h2]) h0] at z; cases z
  -- an edge is laid down
  have lay : ∀ (T : Addr) (Hd : Hp) (fs : List V) (eds : List EdgC) (i k : Nat) (s : Int), Kp [fo] H0 Hd → Hd fo = some (.lst fs) → RpAll (fo :: ex) Hd (eds.map edgKD) fs → Hd T = none →
      Kp [fo] H0 (upd (upd Hd T (.tup [.int (i : Nat), .int (k : Nat), .int s])) fo (.lst (fs ++ [.ref T]))) ∧ RpAll (fo :: ex) (upd (upd Hd T (.tup [.int (i : Nat), .int (k : Nat), .int s])) fo (.lst (fs ++ [.ref T]))) ((eds ++ [(i, k, s)]).map edgKD) (fs ++ [.ref T]) := by
    intro T Hd fs eds i k s kd hfd rd nT
    have kT : Kp [] Hd (upd Hd T (.tup [.int (i : Nat), .int (k : Nat), .int s])) := Kp.laid nT
    have lvd := live kd (by rw [hfd]; exact fun q => nomatch q)
    have rT : Rp (fo :: ex) (upd Hd T (.tup [.int (i : Nat), .int (k : Nat), .int s])) (edgKD (i, k, s)) (.ref T) := rp_new (lvd.fresh nT) nT ⟨_, _, rfl, rfl, _, _, rfl, rfl, RpAll.one rfl⟩
    have kF : Kp (fo :: ex) (upd Hd T (.tup [.int (i : Nat), .int (k : Nat), .int s])) (upd (upd Hd T (.tup [.int (i : Nat), .int (k : Nat), .int s])) fo (.lst (fs ++ [.ref T]))) := Kp.put (by simp)
    refine ⟨(kd.trans (kT.mono (by simp))).trans (Kp.put (by simp)), ?_⟩
    have := (RpAll.keep ((kT.mono (by simp)).trans kF) _ _ rd).app (RpAll.one (Rp.keep kF _ _ rT))
    rw [List.map_append]
    exact this
  refine ⟨_, rfl, a, xs, rfl, .inr (.inl (.inl ha)), (xs.length : Int), rfl, by omega, by omega, ?_⟩
  rw [Int.toNat_natCast]
  refine for_range (fun j σ H' => ∃ (v2 v3 v4 v5 : Option V) (fs : List V), σ = [some (.ref a), some (.ref fo), v2, v3, v4, v5] ∧ Kp [fo] H0 H' ∧ H' fo = some (.lst fs) ∧ fs.length ≤ 200 * j ∧ RpAll (fo :: ex) H' ((edgA es j).map edgKD) fs)
    ⟨none, none, none, none, [], rfl, Kp.refl, hf0, Nat.zero_le _, rfl⟩ ?_ ?_
  · rintro st σ H1 hst ⟨v2, v3, v4, v5, fs, rfl, k1, hf1, hfl, hfr⟩
    rw [show (0 : Int) + ((st : Nat) : Int) = ((st : Nat) : Int) by omega]
    obtain ⟨e, he⟩ : ∃ e, es[st]? = some e := ⟨_, List.getElem?_eq_getElem (by omega)⟩
    have ha1 := hal k1
    have hx1 := hxl k1
    refine ws_or (K := K) (i := 2) rfl rfl ha1 hx1 he (by decide) fun wa Hm kT hwa nwa => ?_
    have nwf : wa ≠ fo := nwa fo (by rw [hf1]; exact fun z => nomatch z) (by simp)
    have km := k1.trans (kT.mono (ex' := [fo]) (by simp))
    have hfm := kT _ _ (by simp) hf1
    have hrm := RpAll.keep (kT.mono (by simp)) _ _ hfr
    ·
      refine ⟨wa, rfl, ⟨_, .inl (.inl hwa)⟩, for_tup (K := K) (a := wa) (xs := e.ws.map V.str) (fun i σ H' => ∃ (v3 v4 v5 : Option V) (fs : List V), σ = [some (.ref a), some (.ref fo), some (.int (st : Nat)), v3, v4, v5] ∧ Kp [fo] Hm H' ∧ H' fo = some (.lst fs) ∧ fs.length ≤ 200 * st + 64 * i ∧ RpAll (fo :: ex) H' ((edgA es st ++ (e.ws.take i).flatMap fun c => stK st c (st + 1) (some 0) (es.drop (st + 1))).map edgKD) fs)
        ⟨v3, v4, v5, fs, rfl, Kp.refl, hfm, hfl, by simpa using hrm⟩ (fun i σ H' hj ⟨_, _, _, _, _, k, _⟩ => .inl (.inl (k _ _ (by simpa using nwf) hwa))) ?_ ?_⟩
      · rintro i x σ H2 hxi ⟨v3, v4, v5, fs, rfl, k2, hf2, hfl2, hr2⟩
        obtain ⟨c, hc, rfl⟩ : ∃ c, e.ws[i]? = some c ∧ V.str c = x := by
          rw [List.getElem?_map] at hxi
          cases hcj : e.ws[i]? with
          | none => rw [hcj] at hxi; cases hxi
          | some c => rw [hcj] at hxi; exact ⟨c, rfl, Option.some.inj hxi⟩
        have hi : i < e.ws.length := (List.getElem?_eq_some_iff.mp hc).1
        have k02 := km.trans k2
        have hws3 := ((ok e (List.mem_of_getElem? he)).ws).2
        refine ⟨_, rfl, _, 1, rfl, rfl, _, rfl, a, xs, rfl, .inr (.inl (.inl (hal k02))), _, 1, rfl, rfl, _, _, rfl, by omega, ?_⟩
        have hn : (((xs.length : Nat) : Int) + 1 - (((st : Nat) : Int) + 1)).toNat = es.length - st := by omega
        rw [hn]
        refine for_range (fun j σ H' => ∃ (v5 : Option V) (fs : List V) (t : Cost) (done : List EdgC), σ = [some (.ref a), some (.ref fo), some (.int (st : Nat)), some (.str c), some (costV2 t), v5] ∧ Kp [fo] H2 H' ∧ H' fo = some (.lst fs) ∧ fs.length ≤ 200 * st + 64 * i + j ∧
          RpAll (fo :: ex) H' ((edgA es st ++ ((e.ws.take i).flatMap fun c => stK st c (st + 1) (some 0) (es.drop (st + 1))) ++ done).map edgKD) fs ∧ done ++ stR es st c (st + 1 + j) t = stK st c (st + 1) (some 0) (es.drop (st + 1)))
          ⟨v5, fs, some 0, [], rfl, Kp.refl, hf2, hfl2, by simpa using hr2, by show stR es st c (st + 1) (some 0) = _; unfold stR; rw [if_pos (by omega)]⟩ ?_ ?_
        · rintro j σ H3 hj ⟨v5, fs, t, done, rfl, k3, hf3, hfl3, hr3, hedge⟩
          have kf3 : Kp [fo] H0 H3 := k02.trans k3
          have ha3 := hal kf3
          have hx3 := hxl kf3
          obtain ⟨k, hk⟩ : ∃ k, k = st + 1 + j := ⟨_, rfl⟩
          rw [← hk] at hedge
          rw [show ((st : Nat) : Int) + 1 + ((j : Nat) : Int) = ((k : Nat) : Int) by omega]
          have hkl : k ≤ es.length := by omega
          rw [stR_eq hkl] at hedge
          refine ⟨fun σ' H' => ∃ (fs : List V), σ' = [some (.ref a), some (.ref fo), some (.int (st : Nat)), some (.str c), some (costV2 t), some (.int (k : Nat))] ∧ Kp [fo] H2 H' ∧ H' fo = some (.lst fs) ∧ fs.length ≤ 200 * st + 64 * i + j + 1 ∧
            RpAll (fo :: ex) H' ((edgA es st ++ ((e.ws.take i).flatMap fun c => stK st c (st + 1) (some 0) (es.drop (st + 1))) ++ (done ++ stNow es st c k t)).map edgKD) fs, ?_, ?_⟩
          · cases t with
            | none =>
              refine ⟨_, rfl, rfl, false, rfl, iteF (iteF ⟨fs, rfl, k3, hf3, by omega, ?_⟩)⟩
              rw [stNow_none, List.append_nil]
              exact hr3
            | some s =>
              refine ⟨_, rfl, rfl, true, rfl, iteT ⟨_, rfl, _, rfl, a, xs, rfl, .inr (.inl (.inl ha3)), rfl, _, rfl, ?_⟩⟩
              have put : oneK st k (some s) = stNow es st c k (some s) → ∀ D : Ends, (∀ (fs : List V) H', Kp [fo] H2 H' → H' fo = some (.lst fs) → fs.length ≤ 200 * st + 64 * i + j + 1 →
                  RpAll (fo :: ex) H' ((edgA es st ++ ((e.ws.take i).flatMap fun c => stK st c (st + 1) (some 0) (es.drop (st + 1))) ++ (done ++ stNow es st c k (some s))).map edgKD) fs → D.nx [some (.ref a), some (.ref fo), some (.int (st : Nat)), some (.str c), some (.int s), some (.int (k : Nat))] H') →
                  (tDrop (tBM K "list" rAppend (tVar 1) (tCons (tTup (tCons (tVar 2) (tCons (tVar 5) (tCons (tVar 4) tNil)))) tNil))) D [some (.ref a), some (.ref fo), some (.int (st : Nat)), some (.str c), some (.int s), some (.int (k : Nat))] H3 := fun eN D qD => by
                refine ⟨_, rfl, .inl ⟨rfl, _, SqL.of hf3⟩, _, rfl, _, rfl, _, rfl, by show 3 ≤ sizeLine; omega, fun T nT => ?_⟩
                have hfT := (Kp.laid (ex := []) (o := .tup [.int (st : Nat), .int (k : Nat), .int s]) nT) _ _ (by simp) hf3
                refine ⟨fo, fs, .ref T, rfl, rfl, hfT, by omega, ?_⟩
                obtain ⟨k4, hr4⟩ := lay T H3 fs _ st k s kf3 hf3 hr3 nT
                refine qD _ _ ?_ upd_same (by rw [List.length_append]; simp; omega) ?_
                · exact (k3.trans ((Kp.laid (ex := []) (o := .tup [.int (st : Nat), .int (k : Nat), .int s]) nT).mono (by simp))).trans (Kp.put (by simp))
                · rw [← eN]
                  rw [List.append_assoc _ done] at hr4
                  exact hr4
              by_cases hkn : k = es.length
              · rw [decide_eq_true (show V.int (k : Nat) = V.int (xs.length : Nat) by rw [hkn, hl])]
                refine iteT (iteT (put ?_ _ fun fs H' h1 h2 h3 h4 => ⟨fs, rfl, h1, h2, h3, h4⟩))
                unfold stNow
                rw [List.getElem?_eq_none (by omega)]
              · rw [decide_eq_false (show ¬ V.int (k : Nat) = V.int (xs.length : Nat) from fun z => by have := V.int.inj z; omega)]
                obtain ⟨e', he'⟩ : ∃ e', es[k]? = some e' := ⟨_, List.getElem?_eq_getElem (by omega)⟩
                obtain ⟨d2, ed2, _, hd2⟩ := ent_reads e'
                refine iteF ⟨_, rfl, _, rfl, _, rfl, ix_ent ha3 hx3 he' fun ve re => c_of (ent_ix re ed2 hd2 rfl fun u ru => ?_)⟩
                obtain ⟨ra, cs, rfl, nra, hra, hcs⟩ := ru
                obtain rfl := strs_of hcs
                refine in_names hra ⟨_, rfl, ?_⟩
                by_cases hcr : c ∈ e'.rs
                · rw [decide_eq_true hcr]
                  refine iteT (put ?_ _ fun fs H' h1 h2 h3 h4 => ⟨fs, rfl, h1, h2, h3, h4⟩)
                  unfold stNow
                  rw [he']
                  exact (if_pos hcr).symm
                · rw [decide_eq_false hcr]
                  refine iteF ⟨fs, rfl, k3, hf3, by omega, ?_⟩
                  have : stNow es st c k (some s) = [] := by
                    unfold stNow
                    rw [he']
                    exact if_neg hcr
                  rw [this, List.append_nil]
                  exact hr3
          · rintro σ' H4 ⟨fs, rfl, k4, hf4, hfl4, hr4⟩
            have ha4 := hal (k02.trans k4)
            have hx4 := hxl (k02.trans k4)
            have fin : ∀ t', t' = nextT es c k t → ∃ (v5 : Option V) (fs : List V) (t : Cost) (done : List EdgC), [some (V.ref a), some (.ref fo), some (.int (st : Nat)), some (.str c), some (costV2 t'), some (.int (k : Nat))] = [some (.ref a), some (.ref fo), some (.int (st : Nat)), some (.str c), some (costV2 t), v5] ∧ Kp [fo] H2 H4 ∧ H4 fo = some (.lst fs) ∧ fs.length ≤ 200 * st + 64 * i + (j + 1) ∧
                RpAll (fo :: ex) H4 ((edgA es st ++ ((e.ws.take i).flatMap fun c => stK st c (st + 1) (some 0) (es.drop (st + 1))) ++ done).map edgKD) fs ∧ done ++ stR es st c (st + 1 + (j + 1)) t = stK st c (st + 1) (some 0) (es.drop (st + 1)) := by
              rintro t' rfl
              refine ⟨_, fs, _, _, rfl, k4, hf4, by omega, hr4, ?_⟩
              rw [List.append_assoc, show st + 1 + (j + 1) = k + 1 by omega]
              exact hedge
            refine ⟨_, rfl, _, rfl, a, xs, rfl, .inr (.inl (.inl ha4)), _, _, rfl, rfl, _, rfl, ?_⟩
            rcases Nat.lt_or_ge k es.length with hlt | hge
            · rw [decide_eq_true (show ((k : Nat) : Int) < (xs.length : Nat) by omega)]
              obtain ⟨e', he'⟩ : ∃ e', es[k]? = some e' := ⟨_, List.getElem?_eq_getElem hlt⟩
              have nx : nextT es c k t = if c ∈ e'.ws then addC t e'.pr else t := by unfold nextT; rw [he']
              obtain ⟨d0, ed0, hd0⟩ := ent_kind e'
              refine iteT ⟨_, rfl, _, rfl, ix_ent ha4 hx4 he' fun ve re => c_of (ent_ix re ed0 hd0 rfl fun vk rk => ?_)⟩
              obtain rfl : vk = .str (if e'.isW then "write" else "query") := rk
              refine ⟨rfl, _, rfl, ?_⟩
              rw [kind_w]
              cases hw : e'.isW with
              | false =>
                refine iteF (iteF (fin t ?_))
                rw [nx, if_neg]
                cases e' with
                | wr => cases hw
                | qu => intro z; cases z
              | true =>
                obtain ⟨d3, ed3, hd3, hd4⟩ := ent_writes hw
                refine iteT ⟨_, rfl, _, rfl, _, rfl, ix_ent ha4 hx4 he' fun ve re => c_of (ent_ix re ed3 hd3 rfl fun u ru => ?_)⟩
                obtain ⟨wa', cs', rfl, nwa', hwa', hcs'⟩ := ru
                obtain rfl := strs_of hcs'
                refine in_names hwa' ⟨_, rfl, ?_⟩
                by_cases hcw : c ∈ e'.ws
                · rw [decide_eq_true hcw]
                  refine iteT ?_
                  cases t with
                  | none =>
                    refine ⟨_, rfl, rfl, true, rfl, iteT (iteT (fin none ?_))⟩
                    rw [nx, if_pos hcw]
                    cases e'.pr <;> rfl
                  | some s =>
                    refine ⟨_, rfl, rfl, false, rfl, iteF ⟨_, rfl, _, rfl, ix_ent ha4 hx4 he' fun ve re => c_of (ent_ix re ed3 hd4 rfl fun pv rp => ?_)⟩⟩
                    cases hp : e'.pr with
                    | none =>
                      rw [hp] at rp
                      obtain rfl : pv = .non := rp
                      refine ⟨rfl, true, rfl, iteT (fin none ?_)⟩
                      rw [nx, if_pos hcw, hp]
                      rfl
                    | some p =>
                      rw [hp] at rp
                      obtain rfl : pv = .int p := rp
                      refine ⟨rfl, false, rfl, iteF ⟨_, rfl, _, rfl, _, rfl, ix_ent ha4 hx4 he' fun ve re => c_of (ent_ix re ed3 hd4 rfl fun pv rp => ?_)⟩⟩
                      rw [hp] at rp
                      obtain rfl : pv = .int p := rp
                      refine ⟨s, p, rfl, rfl, fin (some (s + p)) ?_⟩
                      rw [nx, if_pos hcw, hp]
                      rfl
                · rw [decide_eq_false hcw]
                  exact iteF (fin t (by rw [nx, if_neg hcw]))
            · rw [decide_eq_false (show ¬ ((k : Nat) : Int) < (xs.length : Nat) by omega)]
              refine iteF (iteF (fin t ?_))
              unfold nextT
              rw [List.getElem?_eq_none hge]
        · rintro σ H3 ⟨v5, fs, t, done, rfl, k3, hf3, hfl3, hr3, hedge⟩
          refine ⟨_, _, _, fs, rfl, k2.trans k3, hf3, by omega, ?_⟩
          rw [stR_past (by omega), List.append_nil] at hedge
          rw [List.take_add_one, hc, List.flatMap_append, ← List.append_assoc]
          simp only [Option.toList, List.flatMap_cons, List.flatMap_nil, List.append_nil]
          rw [← hedge]
          exact hr3
      · rintro σ H2 ⟨v3, v4, v5, fs, rfl, k2, hf2, hfl2, hr2⟩
        have hws3 := ((ok e (List.mem_of_getElem? he)).ws).2
        rw [List.length_map] at hfl2 hr2
        refine ⟨_, _, _, _, fs, rfl, km.trans k2, hf2, by omega, ?_⟩
        rw [edgA_succ]
        have : edgK es st = e.ws.flatMap fun c => stK st c (st + 1) (some 0) (es.drop (st + 1)) := by unfold edgK; rw [he]
        rw [this]
        rw [List.take_length] at hr2
        exact hr2
  · rintro σ H1 ⟨v2, v3, v4, v5, fs, rfl, k1, hf1, hfl, hfr⟩
    refine ⟨_, rfl, fo, fs, rfl, SqL.of hf1, fun p np => ?_⟩
    have kp : Kp [] H1 (upd H1 p (.lst fs.reverse)) := Kp.laid np
    have hp : H p = none := by
      cases h : H p with
      | none => rfl
      | some u => rw [back k1 _ _ (by simp) h] at np; cases np
    rw [← hl] at hfr
    refine q p fs.reverse _ ((back k1).trans kp) hp upd_same ?_
    rw [List.map_reverse]
    exact RpAll.rev (RpAll.keep (kp.mono (by simp)) _ _ (RpAll.less (fun b hb => List.mem_cons_of_mem _ hb) _ _ hfr))
end
end NV
/-! KeptK -/
set_option Elab.async false
set_option linter.all false
set_option maxRecDepth 100000
set_option maxHeartbeats 1000000
/-! the law's _law_kept: costs lowered along edges until none changes -/
namespace NV
open PySem PySem.Spec PyProof.Rows L2
open C8 (pss_cut pe_gc)
abbrev sLawKept : Stmt := topS 76
theorem scLawKept : FnScope ["entries", "limit", "at", "costs", "edges", "is_stable", "start", "stop", "cost"] ["entries", "limit"] (defScope sLawKept) := ⟨rfl, rfl, rfl, by decide +kernel, rfl, by decide +kernel, by decide +kernel⟩
/-- a dict of costs -/
def DN (g : Nat → Cost) (kvs : List (Key × V)) : Prop := ∀ k : Nat, valV kvs (Sum.inl (k : Int) : Key) = (g k).map V.int
theorem DN.put {g : Nat → Cost} {kvs : List (Key × V)} (h : DN g kvs) (i : Nat) (s : Int) : DN (fun k => if k = i then some s else g k) (putK kvs (Sum.inl (i : Int) : Key) (.int s)) := fun k => by
  rw [valV_put]
  by_cases hk : k = i
  · rw [if_pos (by rw [hk])]
    show _ = Option.map V.int (if k = i then some s else g k)
    rw [if_pos hk]; rfl
  · rw [if_neg (fun z => hk (by have := Sum.inl.inj z; omega))]
    show _ = Option.map V.int (if k = i then some s else g k)
    rw [if_neg hk]
    exact h k
def gB (es : List Ent) (j k : Nat) : Cost := match es[k]? with
  | some e => if e.isW then none else if k < j then some 0 else none
  | none => if k = es.length then some 0 else none
theorem gB_end (es : List Ent) : gB es es.length = gA es := by
  funext k
  unfold gB gA
  cases he : es[k]? with
  | none => rfl
  | some e =>
    have := (List.getElem?_eq_some_iff.mp he).1
    dsimp only
    rw [if_pos this]
theorem gB_step {es : List Ent} {j : Nat} {e : Ent} (he : es[j]? = some e) : gB es (j + 1) = if e.isW then gB es j else fun k => if k = j then some 0 else gB es j k := by
  have hj := (List.getElem?_eq_some_iff.mp he).1
  cases hw : e.isW with
  | true =>
    rw [if_pos rfl]
    funext k
    unfold gB
    by_cases hk : k = j
    · rw [hk, he]
      dsimp only
      rw [hw]
      rfl
    · cases es[k]? with
      | none => rfl
      | some u =>
        dsimp only
        by_cases h : k < j
        · rw [if_pos h, if_pos (show k < j + 1 by omega)]
        · rw [if_neg h, if_neg (show ¬ k < j + 1 by omega)]
  | false =>
    rw [if_neg Bool.false_ne_true]
    funext k
    by_cases hk : k = j
    · rw [if_pos hk]
      unfold gB
      rw [hk, he]
      dsimp only
      rw [hw, if_pos (Nat.lt_succ_self j)]
      rfl
    · rw [if_neg hk]
      unfold gB
      cases es[k]? with
      | none => rfl
      | some u =>
        dsimp only
        by_cases h : k < j
        · rw [if_pos h, if_pos (show k < j + 1 by omega)]
        · rw [if_neg h, if_neg (show ¬ k < j + 1 by omega)]
theorem edgA_len {es : List Ent} (ok : ∀ e ∈ es, e.Ok) (h60 : es.length ≤ 60) : ∀ n, (edgA es n).length ≤ 200 * n
  | 0 => Nat.le_refl _
  | n + 1 => by
    rw [edgA_succ, List.length_append]
    have ih := edgA_len ok h60 n
    have : (edgK es n).length ≤ 200 := by
      unfold edgK
      cases he : es[n]? with
      | none => exact Nat.zero_le _
      | some e =>
        dsimp only
        have hw := ((ok e (List.mem_of_getElem? he)).ws).2
        have : ∀ cs : List Str, (cs.flatMap fun c => stK n c (n + 1) (some 0) (es.drop (n + 1))).length ≤ 61 * cs.length := fun cs => by
          induction cs with
          | nil => exact Nat.le_refl _
          | cons c cs ih =>
            rw [List.flatMap_cons, List.length_append, List.length_cons]
            have := st_len n c (es.drop (n + 1)) (n + 1) (some 0)
            rw [List.length_drop] at this
            omega
        have := this e.ws
        omega
    omega
theorem far_getD (x : Cost) : (Option.map V.int x).getD (V.int ((10 : Int) ^ (9 : Int).toNat)) = V.int (x.getD farK) := by cases x <;> rfl
def spKeptK : Sp := fun vs H Q _ => ∃ (v : V) (es : List Ent) (ex : List Addr) (B : Int), vs = [v, .int B] ∧ Rp ex H (logD es) v ∧ (∀ e ∈ es, e.Ok) ∧ es.length ≤ 60 ∧ 0 ≤ B ∧ B ≤ 999 ∧ Live ex H ∧
  ∀ p H', Kp [] H H' → Rp ex H' (logD (keptB B es)) (.ref p) → Q (.ref p) H'
section
variable {P : Program} {w : World} {K : PySem.W.Frag} {mg : Str → Option Value} {base : Heap}
theorem ok_keptk (DLawKept : Fn K mg "_law_kept" sLawKept ["entries", "limit"]) (DLawEdges : Fn K mg "_law_edges" sLawEdges ["entries"]) (b_range : mg "range" = none) (b_len : mg "len" = none) (b_tuple : mg "tuple" = none)
    (GLawEdges : FnOk P w K mg base CX0 1 DLawEdges.f DLawEdges.fd ["entries"] spEdgK) :
    FnOk P w K mg base CX0 2 DLawKept.f DLawKept.fd ["entries", "limit"] spKeptK := by
  refine DLawKept.F.ok scLawKept (fun vs H Q E h => ?_) (fun cdv A outer s H vs Q E hr h => ?_)
  · obtain ⟨v, es, ex, B, rfl, _⟩ := h
    rfl
  obtain ⟨v, es, ex, B, rfl, rv, ok, h60, B0, B9, lv, q⟩ := h
  have hu := hu_of hr
  have line : (100000 : Nat) < sizeLine := by decide
  refine ⟨_, pss_cons (ps_asg (pe_tup (pa_cons (pe_disp (pps_cons (pe_callB (lenE K) (by rfl) b_len (by decide +kernel) (pa_cons (pv 0) pa_nil)) pe_int pps_nil) (by rfl) (by rfl) (fun z => by cases z) (by decide)) (pa_cons (pe_fn DLawEdges GLawEdges hr (pa_cons (pv 0) pa_nil)) (pa_cons pe_bl pa_nil)))) (pg_tupE K (by rfl) (pgs_cons (pg_name (i := 3) scLawKept.nd rfl (.inr rfl)) (pgs_cons (pg_name (i := 4) scLawKept.nd rfl (.inl rfl)) (pgs_cons (pg_name (i := 5) scLawKept.nd rfl (.inl rfl)) pgs_nil)))))
      (pss_cons (ps_for PassesOwn.never rfl (pi_range1 rfl b_range (pa_cons (pe_callB (lenE K) (by rfl) b_len (by decide +kernel) (pa_cons (pv 0) pa_nil)) pa_nil)) (pg_name (i := 2) scLawKept.nd rfl (.inl rfl))
      (pss_one (ps_if (pt_cmpR op_eq (pe_ix (ixtE K) (pe_ix (ixtE K) (pv 0) (pv 2) (fun _ _ => rfl)) pe_int (fun _ _ => rfl)) pe_str (nomark _))
      (pss_one (ps_dput hu (pv 3) (pv 2) pe_int rfl))
      pss_nil)))
      (pss_cons (ps_while PassesOwn.never (pt_not (pt_val (pv 5)))
      (pss_cons (ps_set (i := 5) scLawKept.nd rfl (.inl rfl) pe_bl)
      (pss_one (ps_for PassesOwn.never rfl (piListE K (pv 4)) (pg_tupE K (by rfl) (pgs_cons (pg_name (i := 6) scLawKept.nd rfl (.inl rfl)) (pgs_cons (pg_name (i := 7) scLawKept.nd rfl (.inl rfl)) (pgs_cons (pg_name (i := 8) scLawKept.nd rfl (.inl rfl)) pgs_nil))))
      (pss_one (ps_if (PW.pt (pw_and (pt_cmp (pc_din hu (pv 7) (pv 3))) (pw_and1 (pt_cmpR op_lt (pe_op op_add (pe_dget hu (pv 3) (pv 7) (fun _ _ => rfl)) (pv 8)) (pe_dget2 hu (pv 3) (pv 6) (pe_op op_pow pe_int pe_int) ⟨rfl, rfl, rfl, rfl⟩) (nomark _)))))
      (pss_one (ps_asg (pe_tup (pa_cons (pe_op op_add (pe_dget hu (pv 3) (pv 7) (fun _ _ => rfl)) (pv 8)) (pa_cons pe_bl pa_nil))) (pg_tupE K (by rfl) (pgs_cons (pg_sub (pv 3) (pv 6) (set_dict hu)) (pgs_cons (pg_name (i := 5) scLawKept.nd rfl (.inl rfl)) pgs_nil)))))
      pss_nil))))))
      (pss_one (ps_ret (pe_callTy call_tuple_of (by rfl) b_tuple (by decide +kernel) (pa_cons (pe_lc (own := [("at", 2)]) (g := gName 2) (by rfl) scLawKept.nd (pi_range1 rfl b_range (pa_cons (pe_callB (lenE K) (by rfl) b_len (by decide +kernel) (pa_cons (pv 0) pa_nil)) pa_nil)) (blkOk_by (N := ["entries", "limit", "at", "costs", "edges", "is_stable", "start", "stop", "cost"]) (sc := defScope sLawKept) (by decide +kernel)) (fun _ _ _ _ _ => (pg_name (i := 2) scLawKept.nd rfl (.inl rfl))) (fun _ _ _ _ _ => (pts_one (pt_cmpR op_le (pe_dget2 hu (pv 3) (pv 2) (pe_op op_pow pe_int pe_int) ⟨rfl, rfl, rfl, rfl⟩) (pv 1) (nomark _)))) (fun _ _ _ _ _ => (pe_ix (ixtE K) (pv 0) (pv 2) (fun _ _ => rfl)))) pa_nil)))))), ?_⟩
  obtain ⟨a, xs, rfl, na, ha, hx⟩ := id rv
  have hl : es.length = xs.length := len_data hx
  intro d nd
  have k0 : Kp [] H (upd H d (.dK [])) := Kp.laid nd
  have ha0 := k0 _ _ (by simp) ha
  have hd0 : (upd H d (.dK [])) d = some (.dK []) := upd_same
  refine ⟨_, rfl, a, xs, rfl, .inr (.inl (.inl ha0)), hd0, [((Sum.inl (xs.length : Int) : Key), V.int 0)], rfl, by show 1 ≤ 15; omega, ?_⟩
  rw [upd_upd]
  have k1 : Kp [] H (upd H d (.dK (mergeK [] [((Sum.inl (xs.length : Int) : Key), V.int 0)]))) := Kp.laid nd
  have hd1 : (upd H d (.dK (mergeK [] [((Sum.inl (xs.length : Int) : Key), V.int 0)]))) d = some (.dK [((Sum.inl (xs.length : Int) : Key), V.int 0)]) := upd_same
  have nad : a ≠ d := fun z => by rw [z, nd] at ha; cases ha
  have rv1 : Rp (d :: ex) (upd H d (.dK (mergeK [] [((Sum.inl (xs.length : Int) : Key), V.int 0)]))) (logD es) (.ref a) := Rp.keep (k1.mono (by simp)) _ _ (Rp.apart nd _ _ rv)
  have lv1 : Live (d :: ex) (upd H d (.dK (mergeK [] [((Sum.inl (xs.length : Int) : Key), V.int 0)]))) := fun b hb => by
    rcases List.mem_cons.mp hb with z | z
    · rw [z, upd_same]; exact fun q => by cases q
    · exact lv.kp0 k1 b z
  obtain ⟨H1, e1⟩ : ∃ H1, upd H d (.dK (mergeK [] [((Sum.inl (xs.length : Int) : Key), V.int 0)])) = H1 := ⟨_, rfl⟩
  rw [e1] at k1 hd1 rv1 lv1 ⊢
  refine ⟨_, rfl, .ref a, es, d :: ex, rfl, rv1, ok, h60, lv1, fun fo ys H2 k2 nfo hfo rfo => ?_⟩
  refine ⟨by show 3 ≤ sizeLine; omega, fun T nT => ?_⟩
  have hT : (upd H2 T (.tup [.ref d, .ref fo, .bl false])) T = some (.tup [.ref d, .ref fo, .bl false]) := upd_same
  have kT : Kp [] H2 (upd H2 T (.tup [.ref d, .ref fo, .bl false])) := Kp.laid nT
  refine ⟨T, _, rfl, .inl (.inl hT), rfl, _, _, rfl, _, _, rfl, _, _, rfl, rfl, ?_⟩
  have hd2 := kT _ _ (by simp) (k2 _ _ (by simp) hd1)
  have hf2 := kT _ _ (by simp) hfo
  have nfd : fo ≠ d := fun z => by rw [z, hd1] at nfo; cases nfo
  have rf2 : RpAll (d :: ex) _ _ ys := RpAll.keep (kT.mono (by simp)) _ _ rfo
  have k12 : Kp [] H1 (upd H2 T (.tup [.ref d, .ref fo, .bl false])) := k2.trans kT
  have ha2 := k12 _ _ (by simp) (k1 _ _ (by simp) ha)
  obtain ⟨_, _, eaa, _, haa, hx2⟩ := Rp.keep (k12.mono (by simp)) _ _ rv1
  cases eaa
  rw [ha2] at haa
  cases haa
  have k02 := k1.trans k12
  obtain ⟨H3, e3⟩ : ∃ H3, upd H2 T (.tup [.ref d, .ref fo, .bl false]) = H3 := ⟨_, rfl⟩
  rw [e3] at hT hd2 hf2 rf2 k12 ha2 hx2 k02 ⊢
  have hal : ∀ {H' : Hp}, Kp [d] H3 H' → H' a = some (.tup xs) := fun k => k _ _ (by simpa using nad) ha2
  have hxl : ∀ {H' : Hp}, Kp [d] H3 H' → RpAll (d :: ex) H' (es.map Ent.data) xs := fun k => RpAll.keep (k.mono (by simp)) _ _ hx2
  have hfl : ∀ {H' : Hp}, Kp [d] H3 H' → H' fo = some (.lst ys) := fun k => k _ _ (by simpa using nfd) hf2
  have rfl_ : ∀ {H' : Hp}, Kp [d] H3 H' → RpAll (d :: ex) H' ((edgA es es.length).reverse.map edgKD) ys := fun k => RpAll.keep (k.mono (by simp)) _ _ rf2
  have start : DN (gB es 0) [((Sum.inl (xs.length : Int) : Key), V.int 0)] := fun k => by
    have e0 : gB es 0 k = if k = es.length then some 0 else none := by
      unfold gB
      cases he : es[k]? with
      | none => rfl
      | some e =>
        have := (List.getElem?_eq_some_iff.mp he).1
        dsimp only
        rw [if_neg (show ¬ k = es.length by omega)]
        split
        · rfl
        · rfl
    rw [e0]
    by_cases hk : k = es.length
    · rw [if_pos hk, valV_pos (by rw [hk, hl])]; rfl
    · rw [if_neg hk, valV_neg (fun z => hk (by have := Sum.inl.inj z; omega)), valV_nil]; rfl
  refine ⟨_, rfl, a, xs, rfl, .inr (.inl (.inl ha2)), (xs.length : Int), rfl, by omega, by omega, ?_⟩
  rw [Int.toNat_natCast, ← hl]
  refine for_range (fun j σ H' => ∃ (v2 : Option V) (kvs : List (Key × V)), σ = [some (.ref a), some (.int B), v2, some (.ref d), some (.ref fo), some (.bl false), none, none, none] ∧ Kp [d] H3 H' ∧ H' d = some (.dK kvs) ∧ DN (gB es j) kvs ∧ kvs.length ≤ 1 + j)
    ⟨none, _, rfl, Kp.refl, hd2, start, Nat.le_refl _⟩ ?_ ?_
  · rintro j σ H4 hj ⟨v2, kvs, rfl, k4, hd4, dn, len⟩
    rw [show (0 : Int) + ((j : Nat) : Int) = ((j : Nat) : Int) by omega]
    obtain ⟨e, he⟩ : ∃ e, es[j]? = some e := ⟨_, List.getElem?_eq_getElem (by omega)⟩
    obtain ⟨dk, edk, hdk⟩ := ent_kind e
    refine ⟨_, rfl, _, rfl, ix_ent (hal k4) (hxl k4) he fun ve re => c_of (ent_ix re edk hdk rfl fun vk rk => ?_)⟩
    obtain rfl : vk = .str (if e.isW then "write" else "query") := rk
    refine ⟨rfl, _, rfl, ?_⟩
    cases hw : e.isW with
    | true =>
      rw [show decide (V.str (if true = true then ("write" : Str) else "query") = V.str "query") = false from decide_eq_false (by intro h; exact absurd (V.str.inj h) (by decide))]
      refine iteF ⟨_, kvs, rfl, k4, hd4, ?_, by omega⟩
      rw [gB_step he, hw, if_pos rfl]
      exact dn
    | false =>
      rw [show decide (V.str (if false = true then ("write" : Str) else "query") = V.str "query") = true from decide_eq_true rfl]
      refine iteT ⟨_, rfl, _, rfl, d, _, rfl, DPut.k (k := Sum.inl (j : Int)) hd4 (by omega), ?_⟩
      refine ⟨_, _, rfl, k4.trans (Kp.put (by simp)), upd_same, ?_, ?_⟩
      · rw [gB_step he, hw, if_neg Bool.false_ne_true]
        exact dn.put j 0
      · have := length_putK kvs (Sum.inl (j : Int) : Key) (V.int 0)
        omega
  · rintro σ H4 ⟨v2, kvs, rfl, k4, hd4, dn, len⟩
    rw [gB_end] at dn
    obtain ⟨W, eW⟩ : ∃ W : Nat → L2.St → Hp → Prop, W = fun m σ H' => ∃ (v2 v6 v7 v8 : Option V) (b : Bool) (kvs : List (Key × V)), σ = [some (.ref a), some (.int B), v2, some (.ref d), some (.ref fo), some (.bl b), v6, v7, v8] ∧ Kp [d] H3 H' ∧ H' d = some (.dK kvs) ∧
        ((m = 2 ∧ b = false ∧ DN (gA es) kvs ∧ kvs.length ≤ 61) ∨ (m = 1 ∧ b = false ∧ DN (gZ es 0) kvs ∧ kvs.length ≤ 13000) ∨ (m = 0 ∧ b = true ∧ DN (gZ es 0) kvs)) := ⟨_, rfl⟩
    refine ⟨W, ⟨2, by rw [eW]; exact ⟨v2, none, none, none, false, kvs, rfl, k4, hd4, .inl ⟨rfl, rfl, dn, by omega⟩⟩⟩, fun m σ H5 hw => ?_⟩
    rw [eW] at hw
    obtain ⟨v2, v6, v7, v8, b, kvs, rfl, k5, hd5, hw⟩ := hw
    rcases Bool.eq_false_or_eq_true b with rfl | rfl
    · refine ⟨_, rfl, true, rfl, iteF ?_⟩
      have dnz : DN (gZ es 0) kvs := by
        rcases hw with ⟨_, h, _⟩ | ⟨_, h, _⟩ | ⟨_, _, h⟩
        · cases h
        · cases h
        · exact h
      have ha5 := hal k5
      have k05 : Kp [] H H5 := Kp.drop ((k02.mono (by simp)).trans k5) nd
      refine ⟨_, rfl, a, xs, rfl, .inr (.inl (.inl ha5)), (xs.length : Int), rfl, by omega, by omega, fun C nC => ?_⟩
      have nCH : H C = none := by
        cases h : H C with
        | none => rfl
        | some u => rw [k05 _ _ (by simp) h] at nC; cases nC
      have kC : Kp [] H5 (upd H5 C (.lst [])) := Kp.laid nC
      have haC := kC _ _ (by simp) ha5
      have hdC := kC _ _ (by simp) hd5
      have nac : a ≠ C := fun z => by rw [z, nC] at ha5; cases ha5
      have ndc : d ≠ C := fun z => by rw [z, nC] at hd5; cases hd5
      have hxC : RpAll (C :: d :: ex) (upd H5 C (.lst [])) (es.map Ent.data) xs := RpAll.keep (kC.mono (by simp)) _ _ (RpAll.apart nC _ _ (hxl k5))
      rw [Int.toNat_natCast, ← hl]
      refine lc_inv (J := Itr 0 es.length) es.length (fun j H' => Kp [C] (upd H5 C (.lst [])) H' ∧ ∃ us, H' C = some (.lst us) ∧ us.length ≤ j ∧ RpAll (C :: d :: ex) H' ((((List.range j).filter (keptG B es)).filterMap fun k => es[k]?).map Ent.data) us)
        ⟨Kp.refl, [], upd_same, Nat.le_refl _, rfl⟩ ?_ (fun j H' hj _ => hj) ?_
      · rintro H6 ⟨k6, us, hC6, ulen, ur⟩
        refine ⟨Nat.le_refl _, ?_⟩
        have k06 : Kp [] H H6 := Kp.drop (((k05.trans kC).mono (by simp)).trans k6) nCH
        refine ⟨C, us, rfl, .inl ⟨SqL.of hC6, fun p np => ?_⟩⟩
        have kp : Kp [] H6 (upd H6 p (.tup us)) := Kp.laid np
        have live : p ∉ ex := fun hb => by
          have := lv p hb
          cases h : H p with
          | none => exact this h
          | some u => rw [k06 _ _ (by simp) h] at np; cases np
        refine q p _ (k06.trans kp) ⟨p, us, rfl, live, upd_same, ?_⟩
        have e0 : keptB B es = ((List.range es.length).filter (keptG B es)).filterMap fun k => es[k]? := by
          have := kept_by (B := B) (by unfold farK; omega) B0 es 0 (Nat.zero_le _)
          rw [List.drop_zero, Nat.sub_zero, ← List.range_eq_range'] at this
          exact this
        rw [e0]
        exact RpAll.keep (kp.mono (by simp)) _ _ (RpAll.less (fun b hb => List.mem_cons_of_mem _ (List.mem_cons_of_mem _ hb)) _ _ ur)
      · rintro j H6 x H7 hj ⟨k6, us, hC6, ulen, ur⟩ ⟨rfl, rfl⟩
        rw [show (0 : Int) + ((j : Nat) : Int) = ((j : Nat) : Int) by omega]
        obtain ⟨e, he⟩ : ∃ e, es[j]? = some e := ⟨_, List.getElem?_eq_getElem hj⟩
        have hd6 := k6 _ _ (by simpa using ndc) hdC
        refine ⟨rfl, _, rfl, d, rfl, .inl ⟨kvs, .inl hd6⟩, _, rfl, 10, 9, rfl, rfl, by unfold CPow; omega, _, DGet.k (k := Sum.inl (j : Int)) hd6, ?_⟩
        rw [dnz j, far_getD]
        refine ⟨_, rfl, _, _, rfl, rfl, _, rfl, ?_⟩
        show if keptG B es j = true then _ else _
        have step : (((List.range (j + 1)).filter (keptG B es)).filterMap fun k => es[k]?).map Ent.data = (((List.range j).filter (keptG B es)).filterMap fun k => es[k]?).map Ent.data ++ if keptG B es j then [e.data] else [] := by
          rw [List.range_succ, List.filter_append, List.filterMap_append, List.map_append, List.filter_cons]
          cases keptG B es j with
          | true => rw [if_pos rfl, if_pos rfl, List.filter_nil, List.filterMap_cons, he]; rfl
          | false => rw [if_neg Bool.false_ne_true, if_neg Bool.false_ne_true]; rfl
        rw [step]
        cases hk : keptG B es j with
        | true =>
          refine iteT ⟨_, rfl, _, rfl, ix_ent (k6 _ _ (by simpa using nac) haC) (RpAll.keep (k6.mono (by simp)) _ _ hxC) he fun ve re => ⟨us, hC6, by omega, k6.trans (Kp.put (by simp)), _, upd_same, by rw [List.length_append]; simp; omega, ?_⟩⟩
          rw [if_pos rfl]
          have kF : Kp (C :: d :: ex) H7 (upd H7 C (.lst (us ++ [ve]))) := Kp.put (by simp)
          exact (RpAll.keep kF _ _ ur).app (RpAll.one (Rp.keep kF _ _ re))
        | false =>
          refine iteF ⟨k6, us, hC6, by omega, ?_⟩
          rw [if_neg Bool.false_ne_true, List.append_nil]
          exact ur
    · refine ⟨_, rfl, false, rfl, iteT ⟨fun σ' H' => ∃ m', m' < m ∧ W m' σ' H', fun _ _ h => h, ?_⟩⟩
      obtain ⟨g0, n0, dn0, len0, n0b, hg0⟩ : ∃ g0 n0, DN g0 kvs ∧ kvs.length ≤ n0 ∧ n0 ≤ 13000 ∧ ((g0 = gA es ∧ m = 2 ∧ n0 ≤ 61) ∨ (g0 = gZ es 0 ∧ m = 1)) := by
        rcases hw with ⟨h, _, h1, h2⟩ | ⟨h, _, h1, h2⟩ | ⟨_, h, _⟩
        · exact ⟨_, _, h1, h2, by omega, .inl ⟨rfl, h, by omega⟩⟩
        · exact ⟨_, _, h1, h2, by omega, .inr ⟨rfl, h⟩⟩
        · cases h
      have elen := edgA_len ok h60 es.length
      have ylen : ((edgA es es.length).reverse).length = ys.length := by
        have := (rfl_ k5).length
        rwa [List.length_map] at this
      have ylen2 : ys.length ≤ 12000 := by rw [← ylen, List.length_reverse]; omega
      refine ⟨_, rfl, fo, rfl, ⟨_, SqL.of (hfl k5)⟩, for_list (K := K) (a := fo) (xs := ys) (fun j σ H' => ∃ (v6 v7 v8 : Option V) (b : Bool) (kvs : List (Key × V)), σ = [some (.ref a), some (.int B), v2, some (.ref d), some (.ref fo), some (.bl b), v6, v7, v8] ∧ Kp [d] H3 H' ∧ H' d = some (.dK kvs) ∧
          DN (((edgA es es.length).reverse.take j).foldl relax g0) kvs ∧ kvs.length ≤ n0 + j ∧ (b = true → ((edgA es es.length).reverse.take j).foldl relax g0 = g0) ∧ (g0 = gZ es 0 → b = true))
        ⟨v6, v7, v8, true, kvs, rfl, k5, hd5, dn0, len0, fun _ => rfl, fun _ => rfl⟩ (fun j σ H' _ ⟨_, _, _, _, _, _, k, _⟩ => SqL.of (hfl k)) ?_ ?_⟩
      · rintro j x σ H6 hxj ⟨v6, v7, v8, b, kvs, rfl, k6, hd6, dn6, len6, same6, z6⟩
        have hj : j < ys.length := (List.getElem?_eq_some_iff.mp hxj).1
        obtain ⟨dd, hdd, rd⟩ := RpAll.back (rfl_ k6) hxj
        obtain ⟨ed, hed, rfl⟩ : ∃ ed, (edgA es es.length).reverse[j]? = some ed ∧ edgKD ed = dd := by
          rw [List.getElem?_map] at hdd
          cases h : (edgA es es.length).reverse[j]? with
          | none => rw [h] at hdd; cases hdd
          | some e => rw [h] at hdd; exact ⟨e, rfl, Option.some.inj hdd⟩
        have htake : (edgA es es.length).reverse.take (j + 1) = (edgA es es.length).reverse.take j ++ [ed] := by rw [List.take_add_one, hed]; rfl
        obtain ⟨t, ts, rfl, nt, ht, hts⟩ := rd
        obtain ⟨_, _, rfl, rfl, _, _, rfl, rfl, _, _, rfl, rfl, rfl⟩ := hts
        refine ⟨t, _, rfl, .inl (.inl ht), rfl, _, _, rfl, _, _, rfl, _, _, rfl, rfl, ?_⟩
        rw [htake, List.foldl_append, List.foldl_cons, List.foldl_nil]
        revert dn6 same6
        generalize ((edgA es es.length).reverse.take j).foldl relax g0 = g
        intro dn6 same6
        refine ⟨_, rfl, _, rfl, d, _, rfl, DGet.k (k := Sum.inl (ed.2.1 : Int)) hd6, _, rfl, ?_⟩
        rw [dn6 ed.2.1]
        have hed' : ed ∈ edgA es es.length := List.mem_reverse.mp (List.mem_of_getElem? hed)
        cases hg : g ed.2.1 with
        | none =>
          have er : relax g ed = g := by unfold relax; rw [hg]
          rw [er]
          exact iteF (iteF ⟨_, _, _, b, kvs, rfl, k6, hd6, dn6, by omega, same6, z6⟩)
        | some b1 =>
          refine iteT ⟨_, rfl, _, rfl, d, .int b1, rfl, by have := DGet.k (k := Sum.inl (ed.2.1 : Int)) hd6; rw [dn6 ed.2.1, hg] at this; exact this, _, rfl, b1, _, rfl, rfl, _, rfl, d, rfl, .inl ⟨kvs, .inl hd6⟩, _, rfl, 10, 9, rfl, rfl, by unfold CPow; omega, _, DGet.k (k := Sum.inl (ed.1 : Int)) hd6, ?_⟩
          rw [dn6 ed.1, far_getD]
          refine ⟨_, _, rfl, rfl, _, rfl, ?_⟩
          by_cases hlt : b1 + ed.2.2 < (g ed.1).getD farK
          · rw [decide_eq_true hlt]
            have er : relax g ed = fun k => if k = ed.1 then some (b1 + ed.2.2) else g k := by unfold relax; rw [hg]; dsimp only; rw [if_pos hlt]
            have dz : g0 ≠ gZ es 0 := fun z => by
              have hb := z6 z
              have hs := same6 hb
              rw [hs, z] at hg hlt
              exact relax_stay ok hed' _ hg hlt
            refine iteT ⟨_, rfl, _, rfl, d, .int b1, rfl, by have := DGet.k (k := Sum.inl (ed.2.1 : Int)) hd6; rw [dn6 ed.2.1, hg] at this; exact this, _, rfl, b1, _, rfl, rfl, by show 2 ≤ sizeLine; omega, fun T2 nT2 => ?_⟩
            have hT2 : (upd H6 T2 (.tup [.int (b1 + ed.2.2), .bl false])) T2 = some (.tup [.int (b1 + ed.2.2), .bl false]) := upd_same
            have kT2 : Kp [] H6 (upd H6 T2 (.tup [.int (b1 + ed.2.2), .bl false])) := Kp.laid nT2
            have hd7 := kT2 _ _ (by simp) hd6
            refine ⟨T2, _, rfl, .inl (.inl hT2), rfl, _, _, rfl, _, rfl, _, rfl, d, _, rfl, DPut.k (k := Sum.inl (ed.1 : Int)) hd7 (by omega), _, _, rfl, rfl, ?_⟩
            rw [er]
            refine ⟨_, _, _, false, _, rfl, (k6.trans (kT2.mono (by simp))).trans (Kp.put (by simp)), upd_same, dn6.put ed.1 (b1 + ed.2.2), ?_, (fun z => by cases z), fun z => absurd z dz⟩
            have := length_putK kvs (Sum.inl (ed.1 : Int) : Key) (V.int (b1 + ed.2.2))
            omega
          · rw [decide_eq_false hlt]
            have er : relax g ed = g := by unfold relax; rw [hg]; dsimp only; rw [if_neg hlt]
            rw [er]
            exact iteF ⟨_, _, _, b, kvs, rfl, k6, hd6, dn6, by omega, same6, z6⟩
      · rintro σ H6 ⟨v6, v7, v8, b, kvs, rfl, k6, hd6, dn6, len6, same6, z6⟩
        rw [← ylen, List.take_length] at dn6 same6
        have dnz : DN (gZ es 0) kvs := by
          rcases hg0 with ⟨h, _⟩ | ⟨h, _⟩
          · have := relax_pass ok es.length (Nat.le_refl _)
            rw [gZ_start] at this
            rw [h, this] at dn6
            exact dn6
          · have := same6 (z6 h)
            rw [this, h] at dn6
            exact dn6
        show ∃ m', m' < m ∧ W m' _ _
        rcases Bool.eq_false_or_eq_true b with rfl | rfl
        · refine ⟨0, ?_, ?_⟩
          · rcases hg0 with ⟨_, h, _⟩ | ⟨_, h⟩ <;> omega
          · rw [eW]
            exact ⟨v2, v6, v7, v8, true, kvs, rfl, k6, hd6, .inr (.inr ⟨rfl, rfl, dnz⟩)⟩
        · rcases hg0 with ⟨h1, h2, h3⟩ | ⟨h1, h2⟩
          · refine ⟨1, by omega, ?_⟩
            rw [eW]
            exact ⟨v2, v6, v7, v8, false, kvs, rfl, k6, hd6, .inr (.inl ⟨rfl, rfl, dnz, by omega⟩)⟩
          · have := z6 h1
            cases this
end
end NV
/-! D10 -/
set_option Elab.async false
set_option linter.all false
set_option maxRecDepth 100000
set_option maxHeartbeats 400000
namespace NV
open PySem PySem.Spec PyProof.Rows L2
open C8 (pss_cut)
abbrev sLawLimit : Stmt := topS 74
theorem scLawLimit : FnScope ["draw"] ["draw"] (defScope sLawLimit) := ⟨rfl, rfl, rfl, by decide +kernel, rfl, by decide +kernel, by decide +kernel⟩
def spLimit : Sp := fun vs H Q _ => ∃ (D : Dr) (n : Nat), vs = [.ref D.d] ∧ DrAt D (n + 3) H ∧ ∀ (B : Int) (H' : Hp), 0 ≤ B → B ≤ 999 → Kp D.ex H H' → DrAt D n H' → Q (.int B) H'
section
variable {P : Program} {w : World} {K : PySem.W.Frag} {mg : Str → Option Value} {base : Heap}
theorem ok_limit (DLawLimit : Fn K mg "_law_limit" sLawLimit ["draw"]) (DLawTake : Fn K mg "_law_take" sLawTake ["draw", "size"]) (DLawPick : Fn K mg "_law_pick" sLawPick ["draw", "some"])
    (GLawTake : FnOk P w K mg base CX0 2 DLawTake.f DLawTake.fd ["draw", "size"] spTake) (GLawPick : FnOk P w K mg base CX0 3 DLawPick.f DLawPick.fd ["draw", "some"] (spPick K)) : FnOk P w K mg base CX0 4 DLawLimit.f DLawLimit.fd ["draw"] spLimit := by
  refine DLawLimit.F.ok scLawLimit (fun vs H Q E h => ?_) (fun cdv A outer s H vs Q E hr h => ?_)
  · obtain ⟨D, n, rfl, _⟩ := h
    rfl
  obtain ⟨D, n, rfl, hD, q⟩ := h
  refine ⟨_, pss_one (ps_ret (pe_fn DLawPick GLawPick hr (pa_cons (pv 0) (pa_cons (pe_lst (pa_cons pe_int (pa_cons pe_int (pa_cons pe_int (pa_cons pe_int (pa_cons pe_int (pa_cons pe_int (pa_cons pe_int (pa_cons (pe_fn DLawTake GLawTake hr (pa_cons (pv 0) (pa_cons pe_int pa_nil))) (pa_cons (pe_fn DLawTake GLawTake hr (pa_cons (pv 0) (pa_cons pe_int pa_nil))) pa_nil)))))))))) pa_nil)))), ?_⟩
  refine ⟨_, rfl, _, rfl, D, n + 2, 100, rfl, by decide, by decide, hD.less (by omega), fun i H1 i0 i1 k1 d1 => ?_⟩
  refine ⟨_, rfl, D, n + 1, 1000, rfl, by decide, by decide, d1.less (by omega), fun j H2 j0 j1 k2 d2 => ?_⟩
  refine ⟨by show 9 ≤ sizeLine; decide, fun l nl => ?_⟩
  have kl : Kp [] H2 (upd H2 l (.lst [V.int 0, V.int 1, V.int 2, V.int 3, V.int 4, V.int 6, V.int 10, V.int i, V.int j])) := Kp.laid nl
  refine ⟨D, n, l, _, rfl, SqL.of upd_same, by show 0 < 9; decide, by show 9 < 1073741824; decide, Dr.sub (d2.fresh nl), d2.keep kl, fun m v H3 hm k3 d3 => ?_⟩
  have kk : Kp D.ex H H3 := k1.trans (k2.trans ((kl.mono (by simp)).trans k3))
  match m, hm with
  | 0, h => obtain rfl := Option.some.inj h; exact q 0 H3 (by omega) (by omega) kk d3
  | 1, h => obtain rfl := Option.some.inj h; exact q 1 H3 (by omega) (by omega) kk d3
  | 2, h => obtain rfl := Option.some.inj h; exact q 2 H3 (by omega) (by omega) kk d3
  | 3, h => obtain rfl := Option.some.inj h; exact q 3 H3 (by omega) (by omega) kk d3
  | 4, h => obtain rfl := Option.some.inj h; exact q 4 H3 (by omega) (by omega) kk d3
  | 5, h => obtain rfl := Option.some.inj h; exact q 6 H3 (by omega) (by omega) kk d3
  | 6, h => obtain rfl := Option.some.inj h; exact q 10 H3 (by omega) (by omega) kk d3
  | 7, h => obtain rfl := Option.some.inj h; exact q i H3 (by omega) (by omega) kk d3
  | 8, h => obtain rfl := Option.some.inj h; exact q j H3 (by omega) (by omega) kk d3
  | m + 9, h => cases h
end
end NV
/-! D11 -/
set_option Elab.async false
set_option linter.all false
set_option maxRecDepth 100000
set_option maxHeartbeats 600000
namespace NV
open PySem PySem.Spec PyProof.Rows L2
open C8 (pss_cut)
def iBigB : V → Bool
  | .int i => decide ((10 : Int) ^ 18 ≤ if i < 0 then -i else i)
  | _ => false
def iSubB : V → V
  | .int i => .int ((if i < 0 then -i else i) - (10 : Int) ^ 18)
  | v => v
def iModB : V → V
  | .int i => .int ((if i < 0 then -i else i).fmod ((10 : Int) ^ 18))
  | v => v
abbrev sLawBegin : Stmt := topS 67
theorem scLawBegin : FnScope ["script", "large", "cell"] ["script"] (defScope sLawBegin) := ⟨rfl, rfl, rfl, by decide +kernel, rfl, by decide +kernel, by decide +kernel⟩
def spBegin (K : PySem.W.Frag) : Sp := fun vs H Q _ => ∃ (a : Addr) (ns : List Int), vs = [.ref a] ∧ SqL K H a (ns.map V.int) ∧ ns.length ≤ 63 ∧
  ∀ (D : Dr) (H' : Hp), Kp [] H H' → H D.d = none → H D.l = none → H D.it = none → DrAt D 1000000000 H' → Q (.ref D.d) H'
section
variable {P : Program} {w : World} {K : PySem.W.Frag} {mg : Str → Option Value} {base : Heap}
theorem ok_begin (DLawBegin : Fn K mg "_law_begin" sLawBegin ["script"]) (b_abs : mg "abs" = none) : FnOk P w K mg base CX0 1 DLawBegin.f DLawBegin.fd ["script"] (spBegin K) := by
  refine DLawBegin.F.ok scLawBegin (fun vs H Q E h => ?_) (fun cdv A outer s H vs Q E hr h => ?_)
  · obtain ⟨a, ns, rfl, _⟩ := h
    rfl
  obtain ⟨a, ns, rfl, hS, h63, q⟩ := h
  refine ⟨_, pss_cons (ps_setLc (i := 1) (own := [("cell", 2)]) (g := gName 2) (by rfl) scLawBegin.nd rfl rfl (sw_true rfl rfl rfl (by decide +kernel)) (piListE K (pv 0)) (blkOk_by (N := ["script", "large", "cell"]) (sc := defScope sLawBegin) (by decide +kernel)) (fun _ _ _ _ _ => (pg_name (i := 2) scLawBegin.nd rfl (.inl rfl))) (fun _ _ _ _ _ => (pts_one (pt_cmpR op_ge (pe_callB call_abs (by rfl) b_abs (by decide +kernel) (pa_cons (pv 2) pa_nil)) (pe_op op_pow pe_int pe_int) (nomark _)))) (fun _ _ _ _ _ => (pe_op op_sub (pe_callB call_abs (by rfl) b_abs (by decide +kernel) (pa_cons (pv 2) pa_nil)) (pe_op op_pow pe_int pe_int))))
      (pss_one (ps_ret (pe_disp (pps_cons pe_str (pv 1) (pps_cons pe_str pe_int (pps_cons pe_str (pe_lc (own := [("cell", 2)]) (g := gName 2) (tt := tYes) (by rfl) scLawBegin.nd (piListE K (pv 0)) (blkOk_by (N := ["script", "large", "cell"]) (sc := defScope sLawBegin) (by decide +kernel)) (fun _ _ _ _ _ => (pg_name (i := 2) scLawBegin.nd rfl (.inl rfl))) (fun _ _ _ _ _ => pts_nil) (fun _ _ _ _ _ => (pe_op op_modN (pe_callB call_abs (by rfl) b_abs (by decide +kernel) (pa_cons (pv 2) pa_nil)) (pe_op op_pow pe_int pe_int)))) (pps_cons pe_str pe_int pps_nil)))) (by rfl) (by rfl) (fun z => by cases z) (by decide)))), ?_⟩
  refine ⟨_, rfl, a, rfl, ⟨_, hS⟩, fun C nC => ?_⟩
  refine lc_pureL iBigB iSubB hS nC (by rw [List.length_map]; omega) (fun x H2 Q2 hx _ q2 => ?_) (fun x H2 Q2 hx _ _ q2 => ?_) ?_
  · obtain ⟨z, hz, rfl⟩ := List.mem_map.mp hx
    exact ⟨_, rfl, z, rfl, 10, 18, rfl, rfl, ⟨by decide, by decide, by decide⟩, _, _, rfl, rfl, _, rfl, q2⟩
  · obtain ⟨z, hz, rfl⟩ := List.mem_map.mp hx
    exact ⟨_, rfl, z, rfl, 10, 18, rfl, rfl, ⟨by decide, by decide, by decide⟩, _, _, rfl, rfl, q2⟩
  have eA : ((ns.map V.int).filter iBigB).map iSubB = ((ns.filter fun i => iBigB (.int i)).map fun i => (if i < 0 then -i else i) - (10 : Int) ^ 18).map V.int := by
    rw [List.filter_map, List.map_map, List.map_map]
    rfl
  rw [eA]
  obtain ⟨bs, ebs⟩ : ∃ bs, (ns.filter fun i => iBigB (.int i)).map (fun i => (if i < 0 then -i else i) - (10 : Int) ^ 18) = bs := ⟨_, rfl⟩
  rw [ebs]
  have bp : ∀ x ∈ bs, 0 ≤ x := fun x hx => by
    rw [← ebs] at hx
    obtain ⟨z, hz, rfl⟩ := List.mem_map.mp hx
    have h1 : (10 : Int) ^ 18 ≤ (if z < 0 then -z else z) := of_decide_eq_true (List.mem_filter.mp hz).2
    omega
  have k2 : Kp [] H (upd H C (.lst (bs.map V.int))) := Kp.laid nC
  have e2 : upd H C (.lst (bs.map V.int)) C = some (.lst (bs.map V.int)) := upd_same
  obtain ⟨H2, eH2⟩ : ∃ H2, upd H C (.lst (bs.map V.int)) = H2 := ⟨_, rfl⟩
  rw [eH2] at k2 e2 ⊢
  refine fun d nd => ?_
  have k3 : Kp [] H2 (upd H2 d (.dK [])) := Kp.laid nd
  have e3 : upd H2 d (.dK []) d = some (.dK []) := upd_same
  obtain ⟨H3, eH3⟩ : ∃ H3, upd H2 d (.dK []) = H3 := ⟨_, rfl⟩
  rw [eH3] at k3 e3 ⊢
  have e2' := k3 _ _ (by simp) e2
  have hS3 : SqL K H3 a (ns.map V.int) := Kp.seqL (k2.trans k3) (by simp) hS
  refine ⟨_, rfl, _, rfl, a, rfl, ⟨_, hS3⟩, fun L nL => ?_⟩
  refine lc_pureL (fun _ => true) iModB hS3 nL (by rw [List.length_map]; omega) (fun x H4 Q4 _ _ q4 => q4) (fun x H4 Q4 hx _ _ q4 => ?_) ?_
  · obtain ⟨z, hz, rfl⟩ := List.mem_map.mp hx
    exact ⟨_, rfl, z, rfl, 10, 18, rfl, rfl, ⟨by decide, by decide, by decide⟩, _, _, rfl, rfl, (show (10 : Int) ^ (18 : Int).toNat ≠ 0 by decide), q4⟩
  rw [filter_all]
  have eB : (ns.map V.int).map iModB = (ns.map fun i => (if i < 0 then -i else i).fmod ((10 : Int) ^ 18)).map V.int := by
    rw [List.map_map, List.map_map]
    rfl
  rw [eB]
  obtain ⟨ms, ems⟩ : ∃ ms, (ns.map fun i => (if i < 0 then -i else i).fmod ((10 : Int) ^ 18)) = ms := ⟨_, rfl⟩
  rw [ems]
  have mp : ∀ x ∈ ms, 0 ≤ x := fun x hx => by
    rw [← ems] at hx
    obtain ⟨z, _, rfl⟩ := List.mem_map.mp hx
    exact (fmod_in (by decide)).1
  have nLd : L ≠ d := fun z => by rw [z, e3] at nL; cases nL
  have nLC : L ≠ C := fun z => by rw [z, e2'] at nL; cases nL
  have nCd : C ≠ d := fun z => by rw [z, nd] at e2; cases e2
  have e3' : (upd H3 L (.lst (ms.map V.int))) d = some (.dK []) := by rw [upd_ne nLd.symm]; exact e3
  refine ⟨e3', [(kLarge, .ref C), (kLeft, .int 0), (kItems, .ref L), (kTurn, .int 0)], rfl, by show 4 ≤ 15; decide, ?_⟩
  have em : mergeK [] [(kLarge, V.ref C), (kLeft, V.int 0), (kItems, V.ref L), (kTurn, V.int 0)] = drV ⟨d, C, L⟩ 0 0 := by
    obtain ⟨h1, h2, h3, h4, h5, h6⟩ := ne_lk
    simp [mergeK, putK, drV, h1, h2, h3, h4, h5, h6]
  rw [em]
  have none0 : ∀ b, H2 b = none → H b = none := fun b hb => by
    cases e : H b with
    | none => rfl
    | some o => rw [k2 _ _ (by simp) e] at hb; cases hb
  refine q ⟨d, C, L⟩ _ ?_ (none0 d nd) nC (none0 L ?_) ⟨nLC, bs, ms, 0, 0, upd_same, by rw [upd_ne nCd, upd_ne nLC.symm]; exact e2', by rw [upd_ne nLd]; exact upd_same, ⟨Int.le_refl 0, Int.le_refl 0, by decide⟩, bp, mp⟩
  · intro b o _ e
    have h2 := k2 _ _ (by simp) e
    have bd : b ≠ d := ne_of_none h2 nd
    have bL : b ≠ L := ne_of_none (k3 _ _ (by simp) h2) nL
    rw [upd_ne bd, upd_ne bL]
    exact k3 _ _ (by simp) h2
  · cases e : H2 L with
    | none => rfl
    | some o => rw [k3 _ _ (by simp) e] at nL; cases nL
end
end NV
/-! Y2c -/
set_option Elab.async false
set_option linter.all false
set_option maxRecDepth 100000
set_option maxHeartbeats 600000
/-! the package's compacted, is_compact -/
namespace NV
open PySem PySem.Spec PyProof.Rows L2
open C8 (pss_cut pe_gc)
abbrev sCompacted : Stmt := topS 51
theorem scCompacted : FnScope ["log", "budget"] ["log", "budget"] (defScope sCompacted) := ⟨rfl, rfl, rfl, by decide +kernel, rfl, by decide +kernel, by decide +kernel⟩
def spCompact : Sp := fun vs H Q _ => ∃ (v : V) (es : List Ent) (ex : List Addr) (B : Int), vs = [v, .int B] ∧ Rp ex H (logD es) v ∧ LogOk es ∧ es.length ≤ 60 ∧ 0 ≤ B ∧ B ≤ 999 ∧ Live ex H ∧ ∀ p H', Kp [] H H' → Rp ex H' (logD (keptB B es)) (.ref p) → Q (.ref p) H'
section
variable {P : Program} {w : World} {K : PySem.W.Frag} {mg : Str → Option Value} {base : Heap}
theorem ok_compacted (DCompacted : FnK K mg "compacted" sCompacted ["log", "budget"] 1 ["budget"]) (DCheckLog : Fn K mg "check_log" sCheckLog ["log"]) (DCheckBudget : Fn K mg "check_budget" sCheckBudget ["budget"]) (DKeptEntries : Fn K mg "kept_entries" sKeptEntries ["log", "budget"])
    (GCheckLog : FnOk P w K mg base CX0 7 DCheckLog.f DCheckLog.fd ["log"] spCheck) (GCheckBudget : FnOk P w K mg base CX0 2 DCheckBudget.f DCheckBudget.fd ["budget"] spBudget) (GKeptEntries : FnOk P w K mg base CX0 5 DKeptEntries.f DKeptEntries.fd ["log", "budget"] spKept) :
    FnOk P w K mg base CX0 8 DCompacted.f DCompacted.fd ["log", "budget"] spCompact := by
  refine DCompacted.F.ok scCompacted (fun vs H Q E h => ?_) (fun cdv A outer s H vs Q E hr h => ?_)
  · obtain ⟨v, es, ex, B, rfl, _⟩ := h
    rfl
  obtain ⟨v, es, ex, B, rfl, rv, ok, h60, h0, h1, lv, q⟩ := h
  refine ⟨_, pss_cons (ps_expr (pe_fn DCheckLog GCheckLog hr (pa_cons (pv 0) pa_nil)))
      (pss_cons (ps_expr (pe_fn DCheckBudget GCheckBudget hr (pa_cons (pv 1) pa_nil)))
      (pss_one (ps_ret (pe_fn DKeptEntries GKeptEntries hr (pa_cons (pv 0) (pa_cons (pv 1) pa_nil)))))), ?_⟩
  refine ⟨_, rfl, v, es, ex, rfl, rv, ok, h60, fun H1 k1 => ?_⟩
  refine ⟨_, rfl, B, rfl, h0, h1, ?_⟩
  exact ⟨_, rfl, _, rfl, v, es, ex, B, rfl, Rp.keep (k1.mono (by simp)) _ _ rv, ok, h60, lv.kp0 k1, fun p H2 k2 r2 => q p H2 (k1.trans k2) r2⟩
end
end NV
/-! Y2 -/
set_option Elab.async false
set_option linter.all false
set_option maxRecDepth 100000
set_option maxHeartbeats 600000
/-! the package's compacted, is_compact -/
namespace NV
open PySem PySem.Spec PyProof.Rows L2
open C8 (pss_cut pe_gc)
abbrev sIsCompact : Stmt := topS 52
theorem scIsCompact : FnScope ["log", "budget"] ["log", "budget"] (defScope sIsCompact) := ⟨rfl, rfl, rfl, by decide +kernel, rfl, by decide +kernel, by decide +kernel⟩
def spIsCompact : Sp := fun vs H Q _ => ∃ (v : V) (es : List Ent) (ex : List Addr) (B : Int), vs = [v, .int B] ∧ Rp ex H (logD es) v ∧ LogOk es ∧ es.length ≤ 60 ∧ 0 ≤ B ∧ B ≤ 999 ∧ Live ex H ∧ keptB B es = es ∧ ∀ H', Kp [] H H' → Q (.bl true) H'
section
variable {P : Program} {w : World} {K : PySem.W.Frag} {mg : Str → Option Value} {base : Heap}
theorem ok_iscompact (DIsCompact : FnK K mg "is_compact" sIsCompact ["log", "budget"] 1 ["budget"]) (DCompacted : FnK K mg "compacted" sCompacted ["log", "budget"] 1 ["budget"])
    (GCompacted : FnOk P w K mg base CX0 8 DCompacted.f DCompacted.fd ["log", "budget"] spCompact) : FnOk P w K mg base CX0 9 DIsCompact.f DIsCompact.fd ["log", "budget"] spIsCompact := by
  refine DIsCompact.F.ok scIsCompact (fun vs H Q E h => ?_) (fun cdv A outer s H vs Q E hr h => ?_)
  · obtain ⟨v, es, ex, B, rfl, _⟩ := h
    rfl
  obtain ⟨v, es, ex, B, rfl, rv, ok, h60, h0, h1, lv, hk, q⟩ := h
  refine ⟨_, pss_one (ps_ret (pe_cmpR (eqDE K hr.units) (pe_fk DCompacted GCompacted hr (pa_cons (pv 0) pa_nil) (pk_cons (pv 1) pk_nil)) (pv 0) (nomark _))), ?_⟩
  refine ⟨_, rfl, _, rfl, rfl, rfl, v, es, ex, B, rfl, rv, ok, h60, h0, h1, lv, fun p H1 k1 r1 => ⟨_, rfl, ?_⟩⟩
  rw [hk] at r1
  exact eq_logs ok.ok r1 (Rp.keep (k1.mono (by simp)) _ _ rv) (q H1 k1)
end
end NV
/-! PeL -/
set_option Elab.async false
set_option linter.all false
set_option maxRecDepth 100000
set_option maxHeartbeats 1000000
/-! a def that may raise, asked rightly -/
namespace NV
open PySem PySem.Spec PyProof.Rows L2
section
variable {X : Cx}
/-- a def that may raise, asked rightly -/
theorem pe_fL {nm : Str} {st : Stmt} {ps : List Str} {sp : Sp} {e : Expr} {es : List Expr} {t : TA} {p pos : Pos} {j k : Nat} (D : Fn X.K X.mg nm st ps) (G : FnOk X.prog X.w X.K X.mg X.base (L2.CX X.prog X.w) j D.f D.fd ps sp) (hr : Room k X.A) (ha : PA X (e :: es) t)
    (hk : j ≤ k := by decide) (hg : Gl X nm := by rfl) (hdb : (nm == ("__debug__" : Str)) = false := by decide) (he : starEach (e :: es) X.env = (false, eval e X.env) :: starEach es X.env := by rfl) (hpl : (backTo pos (starEach es X.env)).any (·.1) = false := by rfl) :
    PE X (.Call (.Name nm p) (e :: es) [] pos) (tCall sp [] L2.E0 t) := pe_call G (hr.mono hk) hg D.m D.F.kp D.b .nil passL ha hdb he hpl
/-- f(e, .., k = v, ..), a def that may raise, asked rightly -/
theorem pe_qL {nm : Str} {st : Stmt} {ps ks : List Str} {sp : Sp} {e : Expr} {es : List Expr} {kws : List Keyword} {t tk : TA} {p pos : Pos} {j k n : Nat} {g : List Value → List Value → List Value} {gV : List V → List V → List V} (D : FnF X.K X.mg nm st) (B : KBn X.K D.fd ps n ks g gV) (G : FnOk X.prog X.w X.K X.mg X.base (L2.CX X.prog X.w) j D.f D.fd ps sp) (hr : Room k X.A) (ha : PA X (e :: es) t) (hkw : PK X kws tk)
    (hk : j ≤ k := by decide) (hg : Gl X nm := by rfl) (hall : ((backToKw pos (keywordEach kws X.env)).all (·.1.isSome)) = true := by rfl) (hks : (backToKw pos (keywordEach kws X.env)).filterMap (·.1) = ks := by rfl) (hdb : (nm == ("__debug__" : Str)) = false := by decide)
    (he : starEach (e :: es) X.env = (false, eval e X.env) :: starEach es X.env := by rfl) (hpl : (((backTo pos (starEach (e :: es) X.env)).any (·.1)) || ((backToKw pos (keywordEach kws X.env)).any (·.1.isNone))) = false := by rfl) :
    PE X (.Call (.Name nm p) (e :: es) kws pos) (tCallN n ks.length sp gV L2.E0 t tk) := pe_callN G (hr.mono hk) hg D.m D.F.kp B passL ha hkw hall hks hdb he hpl
end
end NV
/-! QL -/
set_option Elab.async false
set_option linter.all false
set_option maxRecDepth 100000
set_option maxHeartbeats 600000
/-! calls of a def that may raise, asked rightly; a reading that is one of two -/
namespace NV
open PySem PySem.Spec PyProof.Rows L2
section
variable {X : Cx} {nm : Str} {st : Stmt} {ps ks : List Str} {sp : Sp} {e : Expr} {es : List Expr} {kws : List Keyword} {t tk : TA} {p pos : Pos} {j k n : Nat} {g : List Value → List Value → List Value} {gV : List V → List V → List V}
theorem pe_qlL {dvs : List V} (D : FnF X.K X.mg nm st) (B : Lack X.K D.fd ps dvs) (G : FnOk X.prog X.w X.K X.mg X.base (L2.CX X.prog X.w) j D.f D.fd ps sp) (hr : Room k X.A) (ha : PA X (e :: es) t)
    (hk : j ≤ k := by decide) (hg : Gl X nm := by rfl) (hdb : (nm == ("__debug__" : Str)) = false := by decide) (he : starEach (e :: es) X.env = (false, eval e X.env) :: starEach es X.env := by rfl) (hpl : (backTo pos (starEach es X.env)).any (·.1) = false := by rfl) :
    PE X (.Call (.Name nm p) (e :: es) [] pos) (tCall sp dvs L2.E0 t) := by
  obtain ⟨ds, vs, b⟩ := B.ex
  exact pe_call G (hr.mono hk) hg D.m D.F.kp b vs passL ha hdb he hpl
theorem pe_or2 {e : Expr} {t1 t2 : TE} (a : PE X e t1) (b : PE X e t2) : PE X e (fun σ H Q => t1 σ H Q ∨ t2 σ H Q) := ⟨fun pins s σ H Q I h => h.elim (a.run pins s σ H Q I) (b.run pins s σ H Q I)⟩
/-- is a bool not this bool -/
theorem op_notBl : OpR X (compareOp .IsNot) (fun x y H Q => ∃ a b : Bool, x = .bl a ∧ y = .bl b ∧ Q (.bl (!decide (a = b))) H) := by
  intro pins s σ H x y v u Q I rx ry h
  obtain ⟨a, b, rfl, rfl, q⟩ := h
  cases (show v = Value.bool a from rx)
  cases (show u = Value.bool b from ry)
  refine wpAny_isNot_plain rfl (fin_bl I q ?_)
  cases a <;> cases b <;> rfl
end
end NV
/-! U1 -/

/-! C29 -/
set_option Elab.async false
set_option linter.all false
set_option maxRecDepth 100000
set_option maxHeartbeats 2000000
/-! the law k29: stores whose budgets are lowered -/
namespace NV
open PySem PySem.Spec PyProof.Rows L2
open C8 (pss_cut pe_gc)
abbrev sLaw : Stmt := topS 78
theorem scLaw : FnScope ["script", "draw", "turn", "entries", "lost", "store", "found", "entry", "budgets", "limit", "large", "gone", "cells", "goal", "due", "last", "here", "one", "name", "step"] ["script"] (defScope sLaw) := ⟨rfl, rfl, rfl, by decide +kernel, rfl, by decide +kernel, by decide +kernel⟩
def spLaw (K : PySem.W.Frag) : Sp := fun vs H Q _ => ∃ (a : Addr) (ns : List Int), vs = [.ref a] ∧ SqL K H a (ns.map V.int) ∧ ns.length ≤ 63 ∧ ∀ H', Q (.bl true) H'
theorem StAt.apart {C : Addr} {ex : List Addr} {H : Hp} {p x : Addr} {es : List Ent} {B : Int} {gone : List Str} (s : StAt C ex H p es B gone) (nx : H x = none) : StAt C (x :: ex) H p es B gone := by
  obtain ⟨dx, lv, ra, na, ns, h1, h2, h3, h4, h5, h6⟩ := s.ob
  refine ⟨dx, lv, ra, na, ns, h1, Rp.apart nx _ _ h2, h3, fun z => ?_, h5, fun z => ?_⟩
  · rcases List.mem_cons.mp z with e | e
    · rw [e, nx] at h3; cases h3
    · exact h4 e
  · rcases List.mem_cons.mp z with e | e
    · rw [e, nx] at h5; cases h5
    · exact h6 e
theorem ids_txt {zs : List Str} (h : ∀ z ∈ zs, idB z = true) : DOk 1 (.list (zs.map PyData.str)) := DOk.lst fun d hd => by
  obtain ⟨z, hz, rfl⟩ := List.mem_map.mp hd
  exact DOk.str (idB_txt (h z hz))
theorem ne_ids {K : PySem.W.Frag} {H : Hp} {a b : Addr} {zs : List Str} {Q : VK} (h : ∀ z ∈ zs, idB z = true) (ha : H a = some (.lst (zs.map V.str))) (hb : H b = some (.lst (zs.map V.str))) (q : Q (.bl false) H) : rNeD K (.ref a) (.ref b) H Q :=
  ne_ok (n := 1) (ids_txt h) (ex := []) (ex' := []) ⟨a, _, rfl, by simp, ha, RpAll.strs zs⟩ ⟨b, _, rfl, by simp, hb, RpAll.strs zs⟩ q
section
variable {P : Program} {w : World} {K : PySem.W.Frag} {mg : Str → Option Value} {base : Heap} {CStore : Addr}
theorem ok_law (DLaw : Fn K mg "law" sLaw ["script"]) (DLawBegin : Fn K mg "_law_begin" sLawBegin ["script"]) (DLawTake : Fn K mg "_law_take" sLawTake ["draw", "size"]) (DLawCells : Fn K mg "_law_cells" sLawCells ["draw"]) (DLawNames : Fn K mg "_law_names" sLawNames ["draw", "many"]) (DLawLimit : Fn K mg "_law_limit" sLawLimit ["draw"]) (DLawEntry : Fn K mg "_law_entry" sLawEntry ["draw", "name", "cells"])
    (DLawKept : Fn K mg "_law_kept" sLawKept ["entries", "limit"]) (DLawFilled : Fn K mg "_law_filled" sLawFilled ["draw", "store", "entries", "goal"]) (T : StTxt K CStore) (DStoreInit : MtD K CStore "__init__" "Store.__init__" sStoreInit ["self", "budget"]) (MStore : MkS K mg "Store" CStore DStoreInit.f) (DStoreAdd : Mt K CStore "add" "Store.add" sStoreAdd ["self", "entry"]) (DStoreLowerBudget : Mt K CStore "lower_budget" "Store.lower_budget" sStoreLowerBudget ["self", "budget"]) (DStoreLog : Mt K CStore "log" "Store.log" sStoreLog ["self"])
    (DCompacted : FnF K mg "compacted" sCompacted) (BCompacted1 : KBn K DCompacted.fd ["log", "budget"] 1 ["budget"] (· ++ ·) (· ++ ·)) (DIsCompact : FnF K mg "is_compact" sIsCompact) (BIsCompact1 : KBn K DIsCompact.fd ["log", "budget"] 1 ["budget"] (· ++ ·) (· ++ ·)) (DStoreOf : FnF K mg "store_of" sStoreOf) (BStoreOf1 : KBn K DStoreOf.fd ["log", "budget"] 1 ["budget"] (· ++ ·) (· ++ ·))
    (b_len : mg "len" = none) (b_range : mg "range" = none) (b_min : mg "min" = none) (b_tuple : mg "tuple" = none) (b_sorted : mg "sorted" = none)
    (GLawBegin : FnOk P w K mg base CX0 1 DLawBegin.f DLawBegin.fd ["script"] (spBegin K)) (GLawTake : FnOk P w K mg base CX0 2 DLawTake.f DLawTake.fd ["draw", "size"] spTake) (GLawCells : FnOk P w K mg base CX0 3 DLawCells.f DLawCells.fd ["draw"] spCells)
    (GLawNames : FnOk P w K mg base CX0 4 DLawNames.f DLawNames.fd ["draw", "many"] spNames) (GLawLimit : FnOk P w K mg base CX0 4 DLawLimit.f DLawLimit.fd ["draw"] spLimit) (GLawEntry : FnOk P w K mg base CX0 5 DLawEntry.f DLawEntry.fd ["draw", "name", "cells"] spEntry) (GLawKept : FnOk P w K mg base CX0 2 DLawKept.f DLawKept.fd ["entries", "limit"] spKeptK)
    (GLawFilled : FnOk P w K mg base CX0 8 DLawFilled.f DLawFilled.fd ["draw", "store", "entries", "goal"] (spFilled CStore)) (GStoreInit : FnOk P w K mg base CX0 3 DStoreInit.f DStoreInit.fd ["self", "budget"] (spStInit CStore)) (GStoreAdd : FnOk P w K mg base CX0 7 DStoreAdd.f DStoreAdd.fd ["self", "entry"] (spStAdd CStore)) (GStoreLowerBudget : FnOk P w K mg base CX0 7 DStoreLowerBudget.f DStoreLowerBudget.fd ["self", "budget"] (spStLow CStore)) (GStoreLog : FnOk P w K mg base CX0 1 DStoreLog.f DStoreLog.fd ["self"] (spStLog CStore))
    (GCompacted : FnOk P w K mg base CX0 8 DCompacted.f DCompacted.fd ["log", "budget"] spCompact) (GIsCompact : FnOk P w K mg base CX0 9 DIsCompact.f DIsCompact.fd ["log", "budget"] spIsCompact) (GStoreOf : FnOk P w K mg base CX0 8 DStoreOf.f DStoreOf.fd ["log", "budget"] (spStoreOf CStore)) :
    FnOk P w K mg base CX0 15 DLaw.f DLaw.fd ["script"] (spLaw K) := by
  refine DLaw.F.ok scLaw (fun vs H Q E h => ?_) (fun cdv A outer s H vs Q E hr h => ?_)
  · obtain ⟨a, ns, rfl, _⟩ := h
    rfl
  obtain ⟨a, ns, rfl, hS, h63, q⟩ := h
  have line : (100000 : Nat) < sizeLine := by decide
  have cStore := T.cl
  refine ⟨_, pss_cons (ps_set (i := 1) scLaw.nd rfl (.inr rfl) (pe_fn DLawBegin GLawBegin hr (pa_cons (pv 0) pa_nil)))
      (pss_cons (ps_for PassesOwn.never rfl (pi_range1 rfl b_range (pa_cons (pe_op op_add pe_int (pe_callB (call_min2 rfl) (by rfl) b_min (by decide +kernel) (pa_cons (pe_callB (lenE K) (by rfl) b_len (by decide +kernel) (pa_cons (pv 0) pa_nil)) (pa_cons pe_int pa_nil)))) pa_nil)) (pg_name (i := 2) scLaw.nd rfl (.inl rfl))
      (pss_cons (ps_asg (pe_tup (pa_cons (pe_fn DLawCells GLawCells hr (pa_cons (pv 1) pa_nil)) (pa_cons (pe_fn DLawLimit GLawLimit hr (pa_cons (pv 1) pa_nil)) pa_nil))) (pg_tupE K (by rfl) (pgs_cons (pg_name (i := 12) scLaw.nd rfl (.inr rfl)) (pgs_cons (pg_name (i := 13) scLaw.nd rfl (.inr rfl)) pgs_nil))))
      (pss_cons (ps_set (i := 3) scLaw.nd rfl (.inl rfl) (pe_callTy call_tuple_of (by rfl) b_tuple (by decide +kernel) (pa_cons (pe_lc (own := [("name", 18)]) (g := gName 18) (tt := tYes) (by rfl) scLaw.nd (piListE K (pe_fn DLawNames GLawNames hr (pa_cons (pv 1) (pa_cons (pe_op op_add pe_int (pe_fn DLawTake GLawTake hr (pa_cons (pv 1) (pa_cons pe_int pa_nil)))) pa_nil)))) (blkOk_by (N := ["script", "draw", "turn", "entries", "lost", "store", "found", "entry", "budgets", "limit", "large", "gone", "cells", "goal", "due", "last", "here", "one", "name", "step"]) (sc := defScope sLaw) (by decide +kernel)) (fun _ _ _ _ _ => (pg_name (i := 18) scLaw.nd rfl (.inl rfl))) (fun _ _ _ _ _ => pts_nil) (fun _ _ _ _ _ => (pe_fn DLawEntry GLawEntry hr (pa_cons (pv 1) (pa_cons (pv 18) (pa_cons (pv 12) pa_nil)))))) pa_nil)))
      (pss_cons (ps_asg (pe_tup (pa_cons (pe_fn DLawKept GLawKept hr (pa_cons (pv 3) (pa_cons (pv 13) pa_nil))) (pa_cons (pe_mkS MStore GStoreInit hr DStoreInit.b (pa_cons pe_int pa_nil)) pa_nil))) (pg_tupE K (by rfl) (pgs_cons (pg_name (i := 14) scLaw.nd rfl (.inr rfl)) (pgs_cons (pg_name (i := 15) scLaw.nd rfl (.inl rfl)) pgs_nil))))
      (pss_cons (ps_set (i := 4) scLaw.nd rfl (.inl rfl) (pe_callB (sortedE K) (by rfl) b_sorted (by decide +kernel) (pa_cons (pe_lc (own := [("one", 17)]) (g := gName 17) (by rfl) scLaw.nd (piTupE K (pv 3)) (blkOk_by (N := ["script", "draw", "turn", "entries", "lost", "store", "found", "entry", "budgets", "limit", "large", "gone", "cells", "goal", "due", "last", "here", "one", "name", "step"]) (sc := defScope sLaw) (by decide +kernel)) (fun _ _ _ _ _ => (pg_name (i := 17) scLaw.nd rfl (.inl rfl))) (fun _ _ _ _ _ => (pts_one (pt_cmpR (op_notInDT K hr.units) (pv 17) (pv 14) (by rfl)))) (fun _ _ _ _ _ => (pe_ix (ixtE K) (pv 17) pe_int (fun _ _ => rfl)))) pa_nil)))
      (pss_cons (ps_for PassesOwn.never rfl (piListE K (pe_lst (pa_cons (pe_mkS MStore GStoreInit hr DStoreInit.b (pa_cons (pv 13) pa_nil)) (pa_cons (pe_mkS MStore GStoreInit hr DStoreInit.b (pa_cons (pe_op op_add (pv 13) (pe_fn DLawTake GLawTake hr (pa_cons (pv 1) (pa_cons (pe_op op_sub pe_int (pv 13)) pa_nil)))) pa_nil)) (pa_cons (pe_mkS MStore GStoreInit hr DStoreInit.b (pa_cons (pe_callB (call_min2 rfl) (by rfl) b_min (by decide +kernel) (pa_cons pe_int (pa_cons (pe_op op_add (pv 13) pe_int) pa_nil))) pa_nil)) pa_nil))))) (pg_name (i := 5) scLaw.nd rfl (.inl rfl))
      (pss_one (ps_if (PW.pt (pw_or (pt_cmpR (neDE K hr.units) (pe_callB (sortedE K) (by rfl) b_sorted (by decide +kernel) (pa_cons (pe_fn DLawFilled GLawFilled hr (pa_cons (pv 1) (pa_cons (pv 5) (pa_cons (pv 3) (pa_cons (pv 13) pa_nil))))) pa_nil)) (pv 4) (nomark _)) (pw_or1 (pt_cmpR (neDE K hr.units) (pe_mth0 (pv 5) cStore DStoreLog GStoreLog hr) (pv 14) (nomark _)))))
      (pss_one (ps_ret pe_bl))
      pss_nil)))
      (pss_cons (ps_set (i := 6) scLaw.nd rfl (.inl rfl) (pe_lst pa_nil))
      (pss_cons (ps_for PassesOwn.never rfl (piTupE K (pv 3)) (pg_name (i := 7) scLaw.nd rfl (.inl rfl))
      (pss_one (ps_set (i := 6) scLaw.nd rfl (.inl rfl) (pe_op op_cat (pv 6) (pe_mth (pv 15) cStore DStoreAdd GStoreAdd hr (pa_cons (pv 7) pa_nil))))))
      (pss_cons (ps_if (PW.pt (pw_or (pt_cmpR (neDE K hr.units) (pe_mth0 (pv 15) cStore DStoreLog GStoreLog hr) (pe_fn DLawKept GLawKept hr (pa_cons (pv 3) (pa_cons pe_int pa_nil))) (nomark _)) (pw_or1 (pt_cmpR (neDE K hr.units) (pe_callB (sortedE K) (by rfl) b_sorted (by decide +kernel) (pa_cons (pe_op op_cat (pv 6) (pe_mth (pv 15) cStore DStoreLowerBudget GStoreLowerBudget hr (pa_cons (pv 13) pa_nil))) pa_nil)) (pv 4) (nomark _)))))
      (pss_one (ps_ret pe_bl))
      pss_nil)
      (pss_cons (ps_par (i := 8) (j := 16) rfl scLaw.nd rfl rfl (by decide) rfl rfl (pa_cons (pe_lc (own := [("step", 19)]) (g := gName 19) (tt := tYes) (by rfl) scLaw.nd (pi_range1 rfl b_range (pa_cons pe_int pa_nil)) (blkOk_by (N := ["script", "draw", "turn", "entries", "lost", "store", "found", "entry", "budgets", "limit", "large", "gone", "cells", "goal", "due", "last", "here", "one", "name", "step"]) (sc := defScope sLaw) (by decide +kernel)) (fun _ _ _ _ _ => (pg_name (i := 19) scLaw.nd rfl (.inl rfl))) (fun _ _ _ _ _ => pts_nil) (fun _ _ _ _ _ => (pe_op op_add (pv 13) (pe_fn DLawTake GLawTake hr (pa_cons (pv 1) (pa_cons (pe_op op_sub pe_int (pv 13)) pa_nil)))))) (pa_cons (pv 3) pa_nil)) rfl)
      (pss_cons (ps_set (i := 8) scLaw.nd rfl (.inl rfl) (pe_revLE K (pe_callB cr_sorted (by rfl) b_sorted (by decide +kernel) (pa_cons (pe_op op_cat (pv 8) (pe_lst (pa_cons (pv 13) pa_nil))) pa_nil))))
      (pss_cons (ps_for PassesOwn.never rfl (piListE K (pv 8)) (pg_name (i := 9) scLaw.nd rfl (.inl rfl))
      (pss_cons (ps_set (i := 16) scLaw.nd rfl (.inl rfl) (pe_q DCompacted BCompacted1 GCompacted hr (pa_cons (pv 16) pa_nil) (pk_cons (pv 9) pk_nil)))
      (pss_one (ps_if (PW.pt (pw_or (pt_cmpR (neDE K hr.units) (pv 16) (pe_fn DLawKept GLawKept hr (pa_cons (pv 3) (pa_cons (pv 9) pa_nil))) (nomark _)) (pw_or1 (pt_cmpR op_notBl (pe_q DIsCompact BIsCompact1 GIsCompact hr (pa_cons (pv 16) pa_nil) (pk_cons (pv 9) pk_nil)) pe_bl (nomark _)))))
      (pss_one (ps_ret pe_bl))
      pss_nil))))
      (pss_cons (ps_set (i := 10) scLaw.nd rfl (.inl rfl) (pe_q DCompacted BCompacted1 GCompacted hr (pa_cons (pv 3) pa_nil) (pk_cons (pe_ix (ixlE K) (pv 8) pe_int (fun _ _ => rfl)) pk_nil)))
      (pss_cons (ps_setLc (i := 11) (own := [("one", 17)]) (g := gName 17) (by rfl) scLaw.nd rfl rfl (sw_true rfl rfl rfl (by decide +kernel)) (piTupE K (pv 10)) (blkOk_by (N := ["script", "draw", "turn", "entries", "lost", "store", "found", "entry", "budgets", "limit", "large", "gone", "cells", "goal", "due", "last", "here", "one", "name", "step"]) (sc := defScope sLaw) (by decide +kernel)) (fun _ _ _ _ _ => (pg_name (i := 17) scLaw.nd rfl (.inl rfl))) (fun _ _ _ _ _ => (pts_one (pt_cmpR (op_notInDT K hr.units) (pv 17) (pv 14) (by rfl)))) (fun _ _ _ _ _ => (pe_ix (ixtE K) (pv 17) pe_int (fun _ _ => rfl))))
      (pss_one (ps_if (PW.pt (pw_or (pt_cmpR (neDE K hr.units) (pv 16) (pv 14) (nomark _)) (pw_or1 (pt_cmpR (neDE K hr.units) (pe_mth (pe_q DStoreOf BStoreOf1 GStoreOf hr (pa_cons (pv 10) pa_nil) (pk_cons (pe_ix (ixlE K) (pv 8) pe_int (fun _ _ => rfl)) pk_nil)) cStore DStoreLowerBudget GStoreLowerBudget hr (pa_cons (pv 13) pa_nil)) (pv 11) (nomark _)))))
      (pss_one (ps_ret pe_bl))
      pss_nil))))))))))))))))
      (pss_one (ps_ret pe_bl))), ?_⟩
  refine ⟨_, rfl, a, ns, rfl, hS, h63, fun D H0 k0 nd nl nit dr => ?_⟩
  refine ⟨_, rfl, a, _, rfl, .inl (Kp.seqL k0 (by simp) hS), _, 4, rfl, 1, _, rfl, rfl, _, rfl, by rw [List.length_map]; split <;> omega, by rw [List.length_map]; split <;> omega, ?_⟩
  rw [List.length_map]
  have turns : ((1 : Int) + (if (4 : Int) < (ns.length : Int) then 4 else (ns.length : Int))).toNat ≤ 5 := by split <;> omega
  generalize ((1 : Int) + (if (4 : Int) < (ns.length : Int) then 4 else (ns.length : Int))).toNat = tn at turns ⊢
  refine for_range (fun i σ H' => ∃ v2 v3 v4 v5 v6 v7 v8 v9 v10 v11 v12 v13 v14 v15 v16 v17 v18 v19 : Option V, σ = [some (.ref a), some (.ref D.d), v2, v3, v4, v5, v6, v7, v8, v9, v10, v11, v12, v13, v14, v15, v16, v17, v18, v19] ∧ DrAt D (900000000 - i * 10000) H') ⟨none, none, none, none, none, none, none, none, none, none, none, none, none, none, none, none, none, none, rfl, dr.less (by omega)⟩ ?_ ?_
  · rintro i σ H1 hi ⟨v2, v3, v4, v5, v6, v7, v8, v9, v10, v11, v12, v13, v14, v15, v16, v17, v18, v19, rfl, d1⟩
    have upk : ∀ {Ha Hb : Hp}, Kp [] Ha Hb → Kp D.ex Ha Hb := fun k => k.mono (by simp)
    -- cells, goal
    refine ⟨_, rfl, D, 899999990 - i * 10000, rfl, d1.less (by omega), fun cs c Hb asc cin c2 c4 nc hc kb db => ?_⟩
    have hcD : c ∉ D.all := d1.fresh nc
    refine ⟨_, rfl, D, 899999980 - i * 10000, rfl, db.less (by omega), fun g Hc g0 g9 kc dc => ?_⟩
    refine ⟨by show 2 ≤ sizeLine; omega, fun tp ntp => ?_⟩
    have kT : Kp [] Hc (upd Hc tp (.tup [.ref c, .int g])) := Kp.laid ntp
    have hT : (upd Hc tp (.tup [.ref c, .int g])) tp = some (.tup [.ref c, .int g]) := upd_same
    refine ⟨tp, _, rfl, .inl (.inl hT), rfl, _, _, rfl, _, _, rfl, rfl, ?_⟩
    have dT := dc.keep kT
    have hcT := kT _ _ (by simp) (kc _ _ (Dr.sub hcD) hc)
    have k1T : Kp D.ex H1 _ := (kb.trans kc).trans (upk kT)
    obtain ⟨H2, e2⟩ : ∃ H2, upd Hc tp (.tup [.ref c, .int g]) = H2 := ⟨_, rfl⟩
    rw [e2] at dT hcT k1T ⊢
    -- the entries
    dsimp only
    refine seq_asg ?_
    refine cb_one ?_
    refine lc_te ?_
    refine ⟨_, rfl, _, rfl, D, 899999970 - i * 10000, 30, rfl, by decide, by decide, dT.less (by omega), fun mi Hm m0 m1 km dm => ?_⟩
    obtain ⟨many, rfl⟩ := Int.eq_ofNat_of_zero_le m0
    refine ⟨1, (many : Int), rfl, rfl, D, 899999900 - i * 10000, 1 + many, by rw [Int.natCast_add]; rfl, by omega, dm.less (by omega), fun zs np Hd nms hlen nnp hnp kd dd => ?_⟩
    have npD : np ∉ D.all := dm.fresh nnp
    have hce := kd _ _ (Dr.sub hcD) (km _ _ (Dr.sub hcD) hcT)
    refine whole_lc2 (σ := [some (.ref a), some (.ref D.d), some (.int (0 + (i : Nat))), v3, v4, v5, v6, v7, v8, v9, v10, v11, some (.ref c), some (.int g), v14, v15, v16, v17, v18, v19]) (jx := 18) (jc := 12) (jd := 1) (m := 899999000 - i * 10000) (ex := D.ex) (fun _ => by rfl) (fun _ => by rfl) (fun _ => by rfl) (fun _ => by rfl) hnp npD nms (by omega) hce hcD asc (fun y hy => bPool_ok y (cin y hy)) (by omega) c4 (fun b hb => hb) dd.live (dd.less (by omega)) fun C Hf es xs lok hid hcs hC hxs nC kf df => ?_
    have hlen' : es.length = zs.length := by rw [← hid, List.length_map]
    refine ⟨C, xs, rfl, .inl ⟨SqL.of hC, fun p np' => ?_⟩⟩
    have rp : Rp D.ex (upd Hf p (.tup xs)) (logD es) (.ref p) := rp_new (df.live.fresh np') np' hxs
    have kp : Kp [] Hf (upd Hf p (.tup xs)) := Kp.laid np'
    have dp := df.keep kp
    have k1p : Kp D.ex H1 (upd Hf p (.tup xs)) := (((k1T.trans km).trans kd).trans kf).trans (upk kp)
    obtain ⟨H3, e3⟩ : ∃ H3, upd Hf p (.tup xs) = H3 := ⟨_, rfl⟩
    rw [e3] at rp dp k1p ⊢
    have h30 : es.length ≤ 30 := by omega
    have h60 : es.length ≤ 60 := by omega
    -- due, last
    refine ⟨_, rfl, _, rfl, .ref p, es, D.ex, g, rfl, rp, lok.ok, h60, g0, g9, dp.live, fun du H4 k4 r4 => ?_⟩
    refine fun x0 dx0 nx0 ndx0 nex0 => make_store nx0 ndx0 (by decide) (by decide) (dp.live.kp0 k4) fun H5 k5 s5 l5 => ?_
    refine ⟨by show 2 ≤ sizeLine; omega, fun tp2 ntp2 => ?_⟩
    have k6 : Kp [] H5 (upd H5 tp2 (.tup [.ref du, .ref x0])) := Kp.laid ntp2
    have hT2 : (upd H5 tp2 (.tup [.ref du, .ref x0])) tp2 = some (.tup [.ref du, .ref x0]) := upd_same
    refine ⟨tp2, _, rfl, .inl (.inl hT2), rfl, _, _, rfl, _, _, rfl, rfl, ?_⟩
    have k36 := (k4.trans k5).trans k6
    have d6 := dp.keep k36
    have rp6 : Rp (x0 :: D.ex) _ (logD es) (.ref p) := Rp.keep ((k5.trans k6).mono (by simp)) _ _ (Rp.apart nx0 _ _ (Rp.keep (upk k4) _ _ rp))
    have rd6 : Rp (x0 :: D.ex) _ (logD (keptB g es)) (.ref du) := Rp.keep ((k5.trans k6).mono (by simp)) _ _ (Rp.apart nx0 _ _ r4)
    have s6 := s5.keep k6 (by simp) (by simp)
    have l6 := l5.kp0 k6
    have x0D : x0 ∉ D.all := (dp.keep k4).fresh nx0
    obtain ⟨H6, e6⟩ : ∃ H6, upd H5 tp2 (.tup [.ref du, .ref x0]) = H6 := ⟨_, rfl⟩
    rw [e6] at d6 rp6 rd6 s6 l6 ⊢
    -- lost
    have okK : ∀ e ∈ keptB g es, e.Ok := fun e he => lok.ok e ((keptB_sub g es).subset he)
    obtain ⟨pa, xa, ep, npa, hpa, hxa⟩ := id rp6
    obtain rfl := V.ref.inj ep
    have hla : es.length = xa.length := len_data hxa
    refine ⟨_, rfl, p, rfl, ⟨_, .inl (.inl hpa)⟩, fun C2 nC2 => ?_⟩
    refine lc_ents (J := Itt K p) (gs := es) (ex := x0 :: D.ex) (fun e => .str e.id) (fun e => decide (e.id ∉ (keptB g es).map Ent.id)) (walks_tup hpa nC2) nC2 hxa (by omega) (fun e x H7 Q7 hm k7 r7 q7 => ?_) (fun e x H7 Q7 hm _ k7 r7 q7 => ?_) (fun H7 ws k7 e7 r7 => ?_) fun x => wipe_one _ _ _
    · refine ⟨_, rfl, _, rfl, e.data, (keptB g es).map Ent.data, C2 :: x0 :: D.ex, C2 :: x0 :: D.ex, r7, Rp.keep (k7.mono (by simp)) _ _ (Rp.apart nC2 _ _ rd6), ent_dok (lok.ok e hm), (fun u hu => ?_), _, rfl, ?_⟩
      · obtain ⟨k, hk, rfl⟩ := List.mem_map.mp hu
        exact ent_dok (okK k hk)
      · rw [notin_kept lok.nd (keptB_sub g es) lok.ok hm]
        exact q7 H7 Kp.refl
    · obtain ⟨dd1, edd1, hdd1, _⟩ := ent_reads e
      refine ⟨_, rfl, c_of (ent_ix r7 edd1 hdd1 rfl fun vi ri => ?_)⟩
      obtain rfl : vi = .str e.id := ri
      exact q7 _ H7 Kp.refl rfl
    have k67 : Kp [] H6 H7 := Kp.drop k7 nC2
    have ews : ws = (lostS g es).map V.str := by
      have : (es.filter fun e => decide (e.id ∉ (keptB g es).map Ent.id)).map (fun e => PyData.str e.id) = (lostS g es).map PyData.str := by unfold lostS; rw [List.map_map]; rfl
      rw [this] at r7
      exact strs_of r7
    rw [ews] at e7
    have losub : (lostS g es).Sublist (es.map Ent.id) := List.filter_sublist.map _
    have lolen : (lostS g es).length < 64 := by have := losub.length_le; rw [List.length_map] at this; omega
    refine ⟨C2, lostS g es, rfl, SqL.of e7, lolen, fun lo Lp lpm lsrt nLp => ?_⟩
    have k8 : Kp [] H7 (upd H7 Lp (.lst (lo.map V.str))) := Kp.laid nLp
    have hLp : (upd H7 Lp (.lst (lo.map V.str))) Lp = some (.lst (lo.map V.str)) := upd_same
    have k68 := k67.trans k8
    have d8 := d6.keep k68
    have rp8 := Rp.keep (k68.mono (ex' := x0 :: D.ex) (by simp)) _ _ rp6
    have rd8 := Rp.keep (k68.mono (ex' := x0 :: D.ex) (by simp)) _ _ rd6
    have s8 := s6.keep k68 (by simp) (by simp)
    have l8 := l6.kp0 k68
    have LpX : Lp ∉ x0 :: D.ex := (l6.kp0 k67).fresh nLp
    obtain ⟨H8, e8⟩ : ∃ H8, upd H7 Lp (.lst (lo.map V.str)) = H8 := ⟨_, rfl⟩
    rw [e8] at hLp d8 rp8 rd8 s8 l8 ⊢
    have lnd : lo.Nodup := lpm.nodup_iff.mpr (lok.nd.sublist losub)
    have loid : ∀ z ∈ lo, idB z = true := fun z hz => nms.idb z (hid ▸ losub.subset (lpm.mem_iff.mp hz))
    have same : ∀ {ys zs' : List Str}, (zs' ++ (keptB g es).map Ent.id).Perm (es.map Ent.id) → ys.Perm zs' → sortedS ys = true → ys = lo := fun {ys zs'} h1 h2 h3 => by
      have h4 : zs'.Perm (lostS g es) := (List.perm_append_right_iff _).mp (h1.trans (lost_perm lok.nd).symm)
      have h5 : ys.Perm lo := (h2.trans h4).trans lpm.symm
      exact asc_same (sorted_asc h3 (h5.nodup_iff.mpr lnd)) (sorted_asc lsrt lnd) fun x => h5.mem_iff
    -- three stores
    have lvS : ∀ {ex : List Addr} {Ha Hb : Hp} {m : Nat}, Live ex Ha → Kp D.ex Ha Hb → DrAt D m Hb → Live ex Hb := fun {ex Ha Hb m} l k d b hb h0 => by
      by_cases z : b ∈ D.ex
      · exact d.live b z h0
      · cases hH : Ha b with
        | none => exact l b hb hH
        | some o => rw [k _ _ z hH] at h0; cases h0
    refine ⟨_, rfl, fun x1 dx1 nx1 ndx1 nex1 => make_store nx1 ndx1 g0 g9 l8 fun H9 k9 s9 l9 => ?_⟩
    have d9 := d8.keep k9
    refine ⟨_, rfl, _, rfl, _, rfl, 1000, g, rfl, rfl, D, 899998000 - i * 10000, 1000 - g, rfl, by omega, by omega, d9.less (by omega), fun i2 H10 i20 i21 k10 d10 => ?_⟩
    have l10 := lvS l9 k10 d10
    refine ⟨g, i2, rfl, rfl, fun x2 dx2 nx2 ndx2 nex2 => make_store nx2 ndx2 (by omega) (by omega) l10 fun H11 k11 s11 l11 => ?_⟩
    obtain ⟨B3, eB3, B30, B39⟩ : ∃ B3 : Int, (if g + 3 < 999 then g + 3 else 999) = B3 ∧ g ≤ B3 ∧ B3 ≤ 999 := ⟨_, rfl, by split <;> omega, by split <;> omega⟩
    refine ⟨_, rfl, g, 3, rfl, rfl, 999, _, rfl, ?_⟩
    rw [eB3]
    refine fun x3 dx3 nx3 ndx3 nex3 => make_store nx3 ndx3 (by omega) B39 l11 fun H12 k12 s12 l12 => ?_
    refine ⟨by show 3 ≤ sizeLine; omega, fun sl nsl => ?_⟩
    have k13 : Kp [] H12 (upd H12 sl (.lst [.ref x1, .ref x2, .ref x3])) := Kp.laid nsl
    have hsl : (upd H12 sl (.lst [.ref x1, .ref x2, .ref x3])) sl = some (.lst [.ref x1, .ref x2, .ref x3]) := upd_same
    have slX := l12.fresh nsl
    have l13 := l12.kp0 k13
    have x3X := l11.fresh nx3
    have x2X := l10.fresh nx2
    have x1X := l8.fresh nx1
    have x1D := d8.fresh nx1
    have x2D := d10.fresh nx2
    have x3D := (d10.keep k11).fresh nx3
    have LpK : Kp D.ex H8 H12 := (((upk k9).trans k10).trans (upk k11)).trans (upk k12)
    have LpX4 : Lp ∉ x3 :: x2 :: x1 :: x0 :: D.ex := fun z => by
      have LD : Lp ∉ D.ex := fun z => LpX (List.mem_cons_of_mem _ z)
      rcases List.mem_cons.mp z with e | z
      · have := (((upk k9).trans k10).trans (upk k11)) _ _ LD hLp
        rw [e, nx3] at this; cases this
      rcases List.mem_cons.mp z with e | z
      · have := ((upk k9).trans k10) _ _ LD hLp
        rw [e, nx2] at this; cases this
      rcases List.mem_cons.mp z with e | z
      · rw [e, nx1] at hLp; cases hLp
      · exact LpX z
    have hLp13 := (LpK.trans (upk k13)) _ _ (fun z => LpX (List.mem_cons_of_mem _ z)) hLp
    have m1 : ∀ b ∈ D.ex, b ∈ x1 :: x0 :: D.ex := fun b hb => List.mem_cons_of_mem _ (List.mem_cons_of_mem _ hb)
    have upR : ∀ {d : PyData} {v : V}, Rp (x0 :: D.ex) H8 d v → Rp (x3 :: x2 :: x1 :: x0 :: D.ex) (upd H12 sl (.lst [.ref x1, .ref x2, .ref x3])) d v := fun r =>
      Rp.keep ((k12.trans k13).mono (by simp)) _ _ (Rp.apart nx3 _ _ (Rp.keep (k11.mono (by simp)) _ _ (Rp.apart nx2 _ _ (Rp.keep (((upk k9).trans k10).mono m1) _ _ (Rp.apart nx1 _ _ r)))))
    have rp13 := upR rp8
    have rd13 := upR rd8
    have s0 := ((((((s8.apart nx1).keep ((upk k9).trans k10) (Dr.sub x0D) m1).apart nx2).keep k11 (by simp) (by simp)).apart nx3).keep (k12.trans k13) (by simp) (by simp))
    have s1 := (((((s9.keep k10 (Dr.sub x1D) m1).apart nx2).keep k11 (by simp) (by simp)).apart nx3).keep (k12.trans k13) (by simp) (by simp))
    have s2 := ((s11.apart nx3).keep (k12.trans k13) (by simp) (by simp))
    have s3 := s12.keep k13 (by simp) (by simp)
    have d13 := d10.keep ((k11.trans k12).trans k13)
    obtain ⟨H13, e13⟩ : ∃ H13, upd H12 sl (.lst [.ref x1, .ref x2, .ref x3]) = H13 := ⟨_, rfl⟩
    rw [e13] at hsl l13 hLp13 rp13 rd13 s0 s1 s2 s3 d13 ⊢
    obtain ⟨ex4, eex⟩ : ∃ ex4, ex4 = x3 :: x2 :: x1 :: x0 :: D.ex := ⟨_, rfl⟩
    obtain ⟨T3, eT3⟩ : ∃ T3, T3 = x1 :: x2 :: x3 :: D.ex := ⟨_, rfl⟩
    rw [← eex] at l13 slX LpX4 rp13 rd13 s0 s1 s2 s3
    have subT : ∀ b ∈ T3, b ∈ ex4 := fun b hb => by
      rw [eT3] at hb; rw [eex]
      rcases List.mem_cons.mp hb with e | hb
      · rw [e]; exact List.mem_cons_of_mem _ (List.mem_cons_of_mem _ List.mem_cons_self)
      rcases List.mem_cons.mp hb with e | hb
      · rw [e]; exact List.mem_cons_of_mem _ List.mem_cons_self
      rcases List.mem_cons.mp hb with e | hb
      · rw [e]; exact List.mem_cons_self
      · exact List.mem_cons_of_mem _ (List.mem_cons_of_mem _ (List.mem_cons_of_mem _ (List.mem_cons_of_mem _ hb)))
    have subD : ∀ b ∈ D.ex, b ∈ ex4 := fun b hb => by rw [eex]; exact List.mem_cons_of_mem _ (List.mem_cons_of_mem _ (List.mem_cons_of_mem _ (List.mem_cons_of_mem _ hb)))
    have x0T : x0 ∉ T3 := fun z => by
      rw [eT3] at z
      rcases List.mem_cons.mp z with e | z
      · exact x1X (by simp [← e])
      rcases List.mem_cons.mp z with e | z
      · exact x2X (by simp [← e])
      rcases List.mem_cons.mp z with e | z
      · exact x3X (by simp [← e])
      · exact Dr.sub x0D z
    obtain ⟨ss, ess⟩ : ∃ ss : List (Addr × Int), ss = [(x1, g), (x2, g + i2), (x3, B3)] := ⟨_, rfl⟩
    have ssF : ∀ pb ∈ ss, g ≤ pb.2 ∧ pb.2 ≤ 999 ∧ pb.1 ∈ T3 ∧ pb.1 ∉ D.all := fun pb hpb => by
      rw [ess] at hpb; rw [eT3]
      rcases List.mem_cons.mp hpb with e | hpb
      · rw [e]; exact ⟨Int.le_refl _, g9, by simp, x1D⟩
      rcases List.mem_cons.mp hpb with e | hpb
      · rw [e]; exact ⟨by show g ≤ g + i2; omega, by show g + i2 ≤ 999; omega, by simp, x2D⟩
      · rw [List.mem_singleton.mp hpb]; exact ⟨B30, B39, by simp, x3D⟩
    have ssN : (ss.map (·.1)).Nodup := by
      rw [ess]
      have n12 : x1 ≠ x2 := fun e => x2X (by simp [← e])
      have n13 : x1 ≠ x3 := fun e => x3X (by simp [← e])
      have n23 : x2 ≠ x3 := fun e => x3X (by simp [← e])
      simp [n12, n13, n23]
    have lvT : ∀ {Hb : Hp} {m : Nat}, Kp T3 H13 Hb → (∀ b ∈ T3, b ∉ D.ex → Hb b ≠ none) → DrAt D m Hb → Live ex4 Hb := fun {Hb m} k al d b hb h0 => by
      by_cases z : b ∈ D.ex
      · exact d.live b z h0
      by_cases z2 : b ∈ T3
      · exact al b z2 z h0
      · cases hH : H13 b with
        | none => exact l13 b hb hH
        | some o => rw [k _ _ z2 hH] at h0; cases h0
    refine ⟨_, rfl, ⟨_, .inl (.inl hsl)⟩, for_list (K := K) (a := sl) (xs := [V.ref x1, .ref x2, .ref x3]) (fun j σ H' => ∃ v5 : Option V, σ = [some (.ref a), some (.ref D.d), some (.int (0 + (i : Nat))), some (.ref p), some (.ref Lp), v5, v6, v7, v8, v9, v10, v11, some (.ref c), some (.int g), some (.ref du), some (.ref x0), v16, v17, v18, v19] ∧ Kp T3 H13 H' ∧ DrAt D (899997000 - i * 10000 - 100 * j) H' ∧ (∀ b ∈ T3, b ∉ D.ex → H' b ≠ none) ∧ ∀ k pb, j ≤ k → ss[k]? = some pb → StAt CStore ex4 H' pb.1 [] pb.2 [])
      ⟨_, rfl, Kp.refl, d13.less (by omega), (fun b hb _ => l13 b (subT b hb)), (fun k pb _ hk => ?_)⟩ (fun j σ H' _ ⟨_, _, k, _⟩ => .inl (.inl (k _ _ (fun z => slX (subT _ z)) hsl))) ?_ ?_⟩
    · rw [ess] at hk
      match k, hk with
      | 0, h => cases h; exact s1
      | 1, h => cases h; exact s2
      | 2, h => cases h; exact s3
      | k + 3, h => cases h
    · rintro j x σ H14 hxj ⟨v5, rfl, k14, d14, al, sts⟩
      obtain ⟨pb, hpb, rfl⟩ : ∃ pb, ss[j]? = some pb ∧ x = V.ref pb.1 := by
        rw [ess]
        match j, hxj with
        | 0, h => exact ⟨_, rfl, (Option.some.inj h).symm⟩
        | 1, h => exact ⟨_, rfl, (Option.some.inj h).symm⟩
        | 2, h => exact ⟨_, rfl, (Option.some.inj h).symm⟩
        | j + 3, h => cases h
      obtain ⟨F1, F2, F3, F4⟩ := ssF pb (List.mem_of_getElem? hpb)
      have hj3 : j < 3 := (List.getElem?_eq_some_iff.mp hxj).1
      have sj := sts j pb (Nat.le_refl _) hpb
      have lv14 := lvT k14 al d14
      have upT : ∀ {Hb : Hp} {d : PyData} {v : V}, Kp T3 H13 Hb → Rp ex4 H13 d v → Rp ex4 Hb d v := fun k r => Rp.keep (k.mono subT) _ _ r
      refine ⟨_, rfl, _, rfl, _, rfl, _, rfl, D, 899997000 - i * 10000 - 100 * (j + 1), pb.1, .ref p, es, pb.2, g, ex4, rfl, upT k14 rp13, lok, h60, sj, subT _ F3, F4, subD, g0, F1, F2, lv14, d14.less (by omega), fun l H15 zs2 kf nl el sf pm df => ?_⟩
      have subP : ∀ b ∈ pb.1 :: D.ex, b ∈ T3 := fun b hb => by
        rcases List.mem_cons.mp hb with e | hb
        · rw [e]; exact F3
        · rw [eT3]; exact List.mem_cons_of_mem _ (List.mem_cons_of_mem _ (List.mem_cons_of_mem _ hb))
      have k15 := k14.trans (kf.mono subP)
      have zlen : zs2.length < 64 := by
        have := pm.length_eq
        rw [List.length_append, List.length_map, List.length_map] at this
        omega
      refine ⟨l, zs2, rfl, SqL.of el, zlen, fun ys S pm2 srt nS => ?_⟩
      obtain rfl := same pm pm2 srt
      have kS : Kp [] H15 (upd H15 S (.lst (ys.map V.str))) := Kp.laid nS
      have hS : (upd H15 S (.lst (ys.map V.str))) S = some (.lst (ys.map V.str)) := upd_same
      have k16 := k15.trans (kS.mono (ex' := T3) (by simp))
      have sS := sf.keep kS (by simp) (by simp)
      have dS := df.keep kS
      obtain ⟨dxS, lvS1, raS, naS, nsS, hS1, _⟩ := id sS.ob
      obtain ⟨H16, e16⟩ : ∃ H16, upd H15 S (.lst (ys.map V.str)) = H16 := ⟨_, rfl⟩
      rw [e16] at hS k16 sS dS hS1 kS ⊢
      refine ⟨_, rfl, ne_ids loid hS (k16 _ _ (fun z => LpX4 (subT _ z)) hLp13) ⟨_, rfl, iteF ?_⟩⟩
      refine ⟨_, rfl, pb.1, dxS, _, rfl, hS1, rfl, pb.1, keptB g es, g, [], ex4, rfl, sS, fun vl rvl => ⟨_, rfl, ne_logs okK rvl (upT k16 rd13) ⟨_, rfl, iteF ⟨_, rfl, k16, dS.less (by omega), (fun b hb hbD h0 => ?_), fun k pb' hk hpb' => ?_⟩⟩⟩⟩
      · by_cases z : b = pb.1
        · rw [z, hS1] at h0; cases h0
        · cases hH : H14 b with
          | none => exact al b hb hbD hH
          | some o =>
            rw [kS _ _ (by simp) (kf _ _ (fun w => (List.mem_cons.mp w).elim z hbD) hH)] at h0
            cases h0
      · have F' := ssF pb' (List.mem_of_getElem? hpb')
        have ne : pb'.1 ≠ pb.1 := fun e => by
          have h1 : (ss.map (·.1))[k]? = some pb'.1 := by rw [List.getElem?_map, hpb']; rfl
          have h2 : (ss.map (·.1))[j]? = some pb.1 := by rw [List.getElem?_map, hpb]; rfl
          obtain ⟨a1, b1⟩ := List.getElem?_eq_some_iff.mp h1
          obtain ⟨a2, b2⟩ := List.getElem?_eq_some_iff.mp h2
          have h3 : k = j := by
            rcases Nat.lt_trichotomy k j with h | h | h
            · exact absurd (b1.trans (e.trans b2.symm)) (List.pairwise_iff_getElem.mp ssN k j a1 a2 h)
            · exact h
            · exact absurd (b2.trans (e.symm.trans b1.symm)) (List.pairwise_iff_getElem.mp ssN j k a2 a1 h)
          omega
        exact ((sts k pb' (by omega) hpb').keep kf (fun z => (List.mem_cons.mp z).elim ne (Dr.sub F'.2.2.2)) fun b hb => subT _ (subP b hb)).keep kS (by simp) (by simp)
    · rintro σ H14 ⟨v5', rfl, k14, d14, al, _⟩
      have d14 : DrAt D (899997000 - i * 10000 - 100 * 3) H14 := d14
      have l14 := lvT k14 al d14
      have s14 := s0.keep k14 x0T subT
      have rp14 := Rp.keep (k14.mono subT) _ _ rp13
      have rd14 := Rp.keep (k14.mono subT) _ _ rd13
      have hLp14 := k14 _ _ (fun z => LpX4 (subT _ z)) hLp13
      have x0m : x0 ∈ ex4 := by rw [eex]; simp
      have sub0 : ∀ b ∈ [x0], b ∈ ex4 := fun b hb => by rw [List.mem_singleton.mp hb]; exact x0m
      have x0o : ∀ b ∈ [x0], b ∉ D.all := fun b hb => by rw [List.mem_singleton.mp hb]; exact x0D
      have lvX : ∀ {Hb : Hp} {L : List Ent} {B : Int}, Kp [x0] H14 Hb → StAt CStore ex4 Hb x0 L B [] → Live ex4 Hb := fun {Hb L B} k s b hb h0 => by
        by_cases z : b = x0
        · obtain ⟨_, _, _, _, _, h, _⟩ := s.ob
          rw [z, h] at h0; cases h0
        · cases hH : H14 b with
          | none => exact l14 b hb hH
          | some o => rw [k _ _ (by simpa using z) hH] at h0; cases h0
      have offX : ∀ {b : Addr}, b ∉ ex4 → b ∉ [x0] := fun n z => n (sub0 _ z)
      refine ⟨by show 0 ≤ sizeLine; omega, fun fl nfl => ?_⟩
      have kfl : Kp [] H14 (upd H14 fl (.lst [])) := Kp.laid nfl
      obtain ⟨pa', xb, ep', npb, hpb, hxb⟩ := id rp14
      obtain rfl := V.ref.inj ep'
      have hlb : es.length = xb.length := len_data hxb
      refine ⟨_, rfl, p, rfl, ⟨_, .inl (.inl (kfl _ _ (by simp) hpb))⟩, for_tup (K := K) (a := p) (xs := xb) (fun j σ H' => ∃ (fl : Addr) (zs : List Str) (L : List Ent) (v7' : Option V), σ = [some (.ref a), some (.ref D.d), some (.int (0 + (i : Nat))), some (.ref p), some (.ref Lp), v5', some (.ref fl), v7', v8, v9, v10, v11, some (.ref c), some (.int g), some (.ref du), some (.ref x0), v16, v17, v18, v19] ∧ Kp [x0] H14 H' ∧ H14 fl = none ∧ H' fl = some (.lst (zs.map V.str)) ∧ StAt CStore ex4 H' x0 L 999 [] ∧ FilI 999 es j L zs ∧ keptB 999 L = L)
        ⟨fl, [], [], _, rfl, kfl.mono (by simp), nfl, upd_same, s14.keep kfl (by simp) (by simp), FilI.zero, rfl⟩ (fun j σ H' _ ⟨_, _, _, _, _, k, _⟩ => .inl (.inl (k _ _ (offX npb) hpb))) ?_ ?_⟩
      · rintro j x σ H15 hxj ⟨l1, zs1, L, v7', rfl, k1, n1, e1, s1', f1, kL⟩
        have hj := (List.getElem?_eq_some_iff.mp hxj).1
        obtain ⟨ee, hee⟩ : ∃ ee, es[j]? = some ee := ⟨_, List.getElem?_eq_getElem (by omega)⟩
        obtain ⟨x', hx', rx⟩ := ent_at (RpAll.keep (k1.mono sub0) _ _ hxb) hee
        rw [hxj] at hx'
        obtain rfl := Option.some.inj hx'
        have f2 := f1.next hee
        have f3 := f2.low (B := 999) (Int.le_refl _) lok
        obtain ⟨dx1', lv1, ra1, na1, ns1, h1, _⟩ := id s1'.ob
        refine ⟨_, rfl, _, rfl, x0, dx1', _, rfl, h1, rfl, _, rfl, ?_⟩
        refine ⟨x0, x, L, ee, 999, [], ex4, rfl, s1', x0m, rx, f2.ok lok, by have := f1.len; omega, (fun z => by cases z), by show 0 ≤ 1000; omega, lvX k1 s1', fun d H16 k2 n2 e2 s2' => ?_⟩
        have k12 := k1.trans k2
        refine ⟨l1, d, _, _, rfl, rfl, k2 _ _ (offX (l14.fresh n1)) e1, e2, ?_, fun l3 n3 => ?_⟩
        · rw [List.length_map, List.length_map]
          have a1 := f3.perm.length_eq
          rw [List.length_append, List.length_append, List.length_map, List.length_map, List.length_take] at a1
          omega
        have k3 : Kp [] H16 (upd H16 l3 (.lst ((zs1.map V.str) ++ ((lostS 999 (L ++ [ee])).map V.str)))) := Kp.laid n3
        have kk : keptB 999 (keptB 999 (L ++ [ee])) = keptB 999 (L ++ [ee]) := by
          have := kept_parts (Int.le_refl 999) [] (L ++ [ee]) [] (by rw [List.nil_append, List.append_nil]; exact (f2.ok lok).ok)
          rwa [List.nil_append, List.nil_append, List.append_nil, List.append_nil] at this
        refine ⟨l3, zs1 ++ lostS 999 (L ++ [ee]), _, _, rfl, k12.trans (k3.mono (by simp)), ?_, ?_, s2'.keep k3 (by simp) (by simp), f3, kk⟩
        · cases h : H14 l3 with
          | none => rfl
          | some o =>
            by_cases z : l3 = x0
            · obtain ⟨_, _, _, _, _, h9, _⟩ := s2'.ob
              rw [z, h9] at n3; cases n3
            · rw [k12 _ _ (by simpa using z) h] at n3; cases n3
        · rw [upd_same, List.map_append]
      · rintro σ H15 ⟨l1', zs1, L, v7'2, rfl, k1, n1, e1, s1', f1, kL⟩
        rw [← hlb] at f1
        have fd := f1.kept
        rw [List.drop_length, List.append_nil, kL] at fd
        have pp := f1.perm
        rw [List.take_length] at pp
        have okL := f1.ok lok
        have lenL := f1.len
        obtain ⟨dx1', lv1, ra1, na1, ns1, h1, _⟩ := id s1'.ob
        have l15 := lvX k1 s1'
        refine ⟨_, rfl, x0, dx1', _, rfl, h1, rfl, x0, L, 999, [], ex4, rfl, s1', fun vl rvl => ?_⟩
        refine ⟨_, rfl, .ref p, es, ex4, 999, rfl, Rp.keep (k1.mono sub0) _ _ rp14, lok.ok, h60, by decide, by decide, l15, fun kq H16 kk16 rq => ?_⟩
        rw [← fd] at rq
        refine ne_logs okL.ok (Rp.keep (kk16.mono (by simp)) _ _ rvl) rq ⟨_, rfl, iteF ?_⟩
        have s16 := s1'.keep kk16 (by simp) (by simp)
        obtain ⟨dx2', lv2, ra2, na2, ns2, h2, _⟩ := id s16.ob
        have e16 := kk16 _ _ (by simp) e1
        refine ⟨_, rfl, _, rfl, x0, dx2', _, rfl, h2, rfl, _, rfl, ?_⟩
        refine ⟨x0, L, 999, g, [], ex4, rfl, s16, x0m, okL, by omega, g0, g9, by decide, l15.kp0 kk16, fun dd H17 k17 n17 e17 s17 => ?_⟩
        have pm1 : ((zs1 ++ lostS g L) ++ (keptB g es).map Ent.id).Perm (es.map Ent.id) := by
          have hk : keptB g es = keptB g L := by
            have := kept_parts g9 [] es [] (by rw [List.nil_append, List.append_nil]; exact lok.ok)
            rw [List.nil_append, List.nil_append, List.append_nil, List.append_nil] at this
            rw [← this, ← fd]
          rw [hk, List.append_assoc]
          exact ((lost_perm okL.nd).append_left zs1).trans pp
        have zl : (zs1 ++ lostS g L).length < 64 := by
          have := pm1.length_eq
          rw [List.length_append, List.length_map, List.length_map] at this
          omega
        have e17' := k17 _ _ (offX (l14.fresh n1)) e16
        refine ⟨l1', dd, _, _, rfl, rfl, e17', e17, by rw [List.length_map, List.length_map]; rw [List.length_append] at zl; omega, fun l3 n3 => ?_⟩
        have k18 : Kp [] H17 (upd H17 l3 (.lst ((zs1.map V.str) ++ ((lostS g L).map V.str)))) := Kp.laid n3
        have e18 : (upd H17 l3 (.lst ((zs1.map V.str) ++ ((lostS g L).map V.str)))) l3 = some (.lst ((zs1 ++ lostS g L).map V.str)) := by rw [upd_same, List.map_append]
        obtain ⟨H18, eH18⟩ : ∃ H18, upd H17 l3 (.lst ((zs1.map V.str) ++ ((lostS g L).map V.str))) = H18 := ⟨_, rfl⟩
        rw [eH18] at k18 e18 ⊢
        refine ⟨l3, _, rfl, SqL.of e18, zl, fun ys S pm2 srt nS => ?_⟩
        obtain rfl := same pm1 pm2 srt
        have kS : Kp [] H18 (upd H18 S (.lst (ys.map V.str))) := Kp.laid nS
        have hS : (upd H18 S (.lst (ys.map V.str))) S = some (.lst (ys.map V.str)) := upd_same
        have k1S : Kp [x0] H14 _ := (((k1.trans (kk16.mono (by simp))).trans k17).trans (k18.mono (by simp))).trans (kS.mono (ex' := [x0]) (by simp))
        have sS := (s17.keep k18 (by simp) (by simp)).keep kS (by simp) (by simp)
        obtain ⟨H19, e19⟩ : ∃ H19, upd H18 S (.lst (ys.map V.str)) = H19 := ⟨_, rfl⟩
        rw [e19] at hS k1S sS ⊢
        refine ⟨_, rfl, ne_ids loid hS (k1S _ _ (offX LpX4) hLp14) ⟨_, rfl, iteF ?_⟩⟩
        have l19 := lvX k1S sS
        have d19 := d14.off2 k1S x0o
        have rp19 := Rp.keep (k1S.mono sub0) _ _ rp14
        have rd19 := Rp.keep (k1S.mono sub0) _ _ rd14
        -- budgets
        refine ⟨3, rfl, by omega, by omega, fun C3 nC3 => ?_⟩
        have C3D := d19.fresh nC3
        refine lc_range (lo := 0) (n := 3) (fun j H' => ∃ bs : List Int, H' C3 = some (.lst (bs.map V.int)) ∧ (∀ b ∈ bs, g ≤ b ∧ b ≤ 999) ∧ bs.length = j ∧ Kp (C3 :: D.ex) (upd H19 C3 (.lst [])) H' ∧ DrAt D (899996000 - i * 10000 + (3 - j)) H') ⟨[], upd_same, (fun b hb => by cases hb), rfl, Kp.refl, (d19.keep (Kp.laid nC3)).less (by omega)⟩ (fun j H' hj h => ?_) (fun H20 h => ?_)
        · obtain ⟨bs, b1, b2, b3, b4, b5⟩ := h
          refine ⟨rfl, yes_on ?_⟩
          refine ⟨_, rfl, _, rfl, _, rfl, 1000, g, rfl, rfl, D, 899996000 - i * 10000 + (3 - (j + 1)), 1000 - g, rfl, by omega, by omega, b5.less (by omega), fun i3 H21 i30 i31 k21 d21 => ?_⟩
          refine ⟨g, i3, rfl, rfl, _, k21 _ _ (Dr.sub C3D) b1, by rw [List.length_map]; omega, bs ++ [g + i3], by rw [upd_same, List.map_append]; rfl, (fun b hb => ?_), by rw [List.length_append, b3]; rfl, (b4.trans (k21.mono fun b hb => List.mem_cons_of_mem _ hb)).trans (Kp.put (by simp)), d21.upd C3D⟩
          rcases List.mem_append.mp hb with z | z
          · exact b2 b z
          · rw [List.mem_singleton.mp z]; omega
        obtain ⟨bs, b1, b2, b3, b4, d20⟩ := h
        have k1920 : Kp D.ex H19 H20 := Kp.drop (((Kp.laid nC3).mono (ex := []) (by simp)).trans b4) nC3
        have rp20 := Rp.keep (k1920.mono subD) _ _ rp19
        have rd20 := Rp.keep (k1920.mono subD) _ _ rd19
        have l20 := lvS l19 k1920 d20
        refine ⟨_, rfl, _, _, rfl, ?_⟩
        refine ⟨_, rfl, _, rfl, by show 1 ≤ sizeLine; omega, fun l1 nl1 => ?_⟩
        have c31 : C3 ≠ l1 := fun z => by rw [z, nl1] at b1; cases b1
        have kl1 : Kp [] H20 (upd H20 l1 (.lst [V.int g])) := Kp.laid nl1
        refine ⟨C3, l1, _, _, rfl, rfl, by rw [upd_ne c31]; exact b1, upd_same, by rw [List.length_map, b3]; show 3 + 1 ≤ sizeLine; omega, fun l2 nl2 => ?_⟩
        have kl2 := kl1.trans (Kp.laid (o := .lst (bs.map V.int ++ [V.int g])) nl2)
        have hl2 : (upd (upd H20 l1 (.lst [V.int g])) l2 (.lst (bs.map V.int ++ [V.int g]))) l2 = some (.lst ((bs ++ [g]).map V.int)) := by rw [upd_same, List.map_append]; rfl
        obtain ⟨H21, e21⟩ : ∃ H21, upd (upd H20 l1 (.lst [V.int g])) l2 (.lst (bs.map V.int ++ [V.int g])) = H21 := ⟨_, rfl⟩
        rw [e21] at kl2 hl2 ⊢
        refine ⟨l2, bs ++ [g], rfl, SqL.of hl2, by rw [List.length_append, b3]; show 3 + 1 < 64; omega, fun us S3 pm3 srt3 nS3 => ?_⟩
        have kl3 := kl2.trans (Kp.laid (o := .lst (us.map V.int)) nS3)
        refine ⟨S3, us.map V.int, rfl, SqL.of upd_same, fun R nR => ?_⟩
        have kl4 := kl3.trans (Kp.laid (o := .lst (us.map V.int).reverse) nR)
        obtain ⟨ds, eds⟩ : ∃ ds, ds = us.reverse := ⟨_, rfl⟩
        have hR : (upd (upd H21 S3 (.lst (us.map V.int))) R (.lst (us.map V.int).reverse)) R = some (.lst (ds.map V.int)) := by rw [upd_same, eds, List.map_reverse]
        have RX : R ∉ ex4 := (l20.kp0 kl3).fresh nR
        have rp22 := Rp.keep (kl4.mono (ex' := ex4) (by simp)) _ _ rp20
        have rd22 := Rp.keep (kl4.mono (ex' := ex4) (by simp)) _ _ rd20
        have l22 := l20.kp0 kl4
        have d22 := d20.keep kl4
        obtain ⟨H22, e22⟩ : ∃ H22, upd (upd H21 S3 (.lst (us.map V.int))) R (.lst (us.map V.int).reverse) = H22 := ⟨_, rfl⟩
        rw [e22] at hR rp22 rd22 l22 d22 ⊢
        have ulen : us.length = 4 := by rw [pm3.length_eq, List.length_append, b3]; rfl
        have uin : ∀ b ∈ us, g ≤ b ∧ b ≤ 999 := fun b hb => by
          rcases List.mem_append.mp (pm3.mem_iff.mp hb) with z | z
          · exact b2 b z
          · rw [List.mem_singleton.mp z]; exact ⟨Int.le_refl _, g9⟩
        have gin : g ∈ us := pm3.mem_iff.mpr (by simp)
        have dlen : ds.length = 4 := by rw [eds, List.length_reverse, ulen]
        have din : ∀ b ∈ ds, g ≤ b ∧ b ≤ 999 := fun b hb => uin b (by rw [eds] at hb; exact List.mem_reverse.mp hb)
        have dpw : ds.Pairwise (fun x y => y ≤ x) := by rw [eds]; exact List.pairwise_reverse.mpr srt3
        have dlast : ds[3]? = some g := by
          match us, ulen, srt3, gin, uin with
          | [u0, u1, u2, u3], _, hp, hg', hu' =>
            rw [eds]
            have h0 : u0 = g := by
              have a1 := (hu' u0 (by simp)).1
              obtain ⟨a2, _⟩ := List.pairwise_cons.mp hp
              rcases List.mem_cons.mp hg' with z | z
              · exact z.symm
              · have := a2 g z; omega
            rw [h0]; rfl
        have idem : ∀ {x y : Int}, x ≤ y → keptB x (keptB y es) = keptB x es := fun {x y} h => by
          have := kept_parts h [] es [] (by rw [List.nil_append, List.append_nil]; exact lok.ok)
          rwa [List.nil_append, List.nil_append, List.append_nil, List.append_nil] at this
        have kok : ∀ x : Int, LogOk (keptB x es) := fun x => lok.sub (keptB_sub x es)
        have klen : ∀ x : Int, (keptB x es).length ≤ 60 := fun x => Nat.le_trans (keptB_sub x es).length_le h60
        refine ⟨_, rfl, R, rfl, ⟨_, .inl (.inl hR)⟩, for_list (K := K) (a := R) (xs := ds.map V.int) (fun j σ H' => ∃ (v9' : Option V) (vh : V) (hs : List Ent), σ = [some (.ref a), some (.ref D.d), some (.int (0 + (i : Nat))), some (.ref p), some (.ref Lp), v5', some (.ref l1'), v7'2, some (.ref R), v9', v10, v11, some (.ref c), some (.int g), some (.ref du), some (.ref x0), some vh, v17, v18, v19] ∧ Kp [] H22 H' ∧ Rp ex4 H' (logD hs) vh ∧ LogOk hs ∧ hs.length ≤ 60 ∧ (∀ (k : Nat) (d : Int), j ≤ k → ds[k]? = some d → keptB d hs = keptB d es) ∧ (j = 0 ∨ ∃ d, ds[j - 1]? = some d ∧ hs = keptB d es))
          ⟨_, .ref p, es, rfl, Kp.refl, rp22, lok, h60, (fun k d _ _ => rfl), .inl rfl⟩ (fun j σ H' _ ⟨_, _, _, _, k, _⟩ => .inl (.inl (k _ _ (by simp) hR))) ?_ ?_⟩
        · rintro j x σ H23 hxj ⟨v9', vh, hs, rfl, k23, rh, okh, h60h, nxt, _⟩
          rw [List.getElem?_map] at hxj
          obtain ⟨dj, hdj, rfl⟩ := Option.map_eq_some_iff.mp hxj
          obtain ⟨dg, d9'⟩ := din dj (List.mem_of_getElem? hdj)
          have l23 := l22.kp0 k23
          refine ⟨_, rfl, _, rfl, rfl, rfl, vh, hs, ex4, dj, rfl, rh, okh, h60h, by omega, d9', l23, fun ph H24 k24 r24 => ?_⟩
          rw [nxt j dj (Nat.le_refl _) hdj] at r24
          have rp24 := Rp.keep ((k23.trans k24).mono (ex' := ex4) (by simp)) _ _ rp22
          refine ⟨_, rfl, _, rfl, _, rfl, .ref p, es, ex4, dj, rfl, rp24, lok.ok, h60, by omega, d9', l23.kp0 k24, fun pk H25 k25 r25 => ?_⟩
          have r24' := Rp.keep (k25.mono (ex' := ex4) (by simp)) _ _ r24
          refine ne_logs (kok dj).ok r24' r25 ⟨_, rfl, iteF ?_⟩
          refine ⟨_, rfl, _, rfl, rfl, rfl, .ref ph, keptB dj es, ex4, dj, rfl, r24', kok dj, klen dj, by omega, d9', (l23.kp0 k24).kp0 k25, idem (Int.le_refl _), fun H26 k26 => ?_⟩
          refine ⟨true, true, rfl, rfl, _, rfl, iteF ?_⟩
          refine ⟨_, .ref ph, keptB dj es, rfl, ((k23.trans k24).trans k25).trans k26, Rp.keep (k26.mono (ex' := ex4) (by simp)) _ _ r24', kok dj, klen dj, fun k d hk hd => idem ?_, .inr ⟨dj, by rw [Nat.add_sub_cancel]; exact hdj, rfl⟩⟩
          obtain ⟨a1, b1'⟩ := List.getElem?_eq_some_iff.mp hd
          obtain ⟨a2, b2'⟩ := List.getElem?_eq_some_iff.mp hdj
          have := List.pairwise_iff_getElem.mp dpw j k a2 a1 (by omega)
          rw [b1', b2'] at this
          exact this
        · rintro σ H23 ⟨v9', vh, hs, rfl, k23, rh, okh, h60h, _, lst⟩
          obtain ⟨dl, hdl, ehs⟩ : ∃ d, ds[4 - 1]? = some d ∧ hs = keptB d es := lst.resolve_left (by rw [List.length_map, dlen]; decide) |>.imp fun d h => by
            rw [List.length_map, dlen] at h
            exact h
          rw [dlast] at hdl
          cases hdl
          obtain ⟨d0, hd0⟩ : ∃ d0, ds[0]? = some d0 := ⟨_, List.getElem?_eq_getElem (by omega)⟩
          obtain ⟨dg, d09⟩ := din d0 (List.mem_of_getElem? hd0)
          have at0 : atI (ds.map V.int) 0 = some (V.int d0) := atI_nat (j := 0) (by rw [List.getElem?_map, hd0]; rfl)
          have l23 := l22.kp0 k23
          have rp23 := Rp.keep (k23.mono (ex' := ex4) (by simp)) _ _ rp22
          have hR23 := k23 _ _ (by simp) hR
          refine ⟨_, rfl, _, rfl, R, _, 0, _, rfl, rfl, .inl (.inl hR23), at0, rfl, rfl, .ref p, es, ex4, d0, rfl, rp23, lok, h60, by omega, d09, l23, fun pl H24 k24 r24 => ?_⟩
          have k24' := k23.trans k24
          have rd24 := Rp.keep (k24'.mono (ex' := ex4) (by simp)) _ _ rd22
          have rh24 := Rp.keep (k24.mono (ex' := ex4) (by simp)) _ _ rh
          have l24 := l23.kp0 k24
          have hR24 := k24 _ _ (by simp) hR23
          obtain ⟨pl', xl, epl, npl, hpl, hxl⟩ := id r24
          obtain rfl := V.ref.inj epl
          have hll : (keptB d0 es).length = xl.length := len_data hxl
          have hk60 := klen d0
          -- gone
          refine ⟨_, rfl, pl, rfl, ⟨_, .inl (.inl hpl)⟩, fun C5 nC5 => ?_⟩
          refine lc_ents (J := Itt K pl) (gs := keptB d0 es) (ex := ex4) (fun e => .str e.id) (fun e => decide (e.id ∉ (keptB g es).map Ent.id)) (walks_tup hpl nC5) nC5 hxl (by omega) (fun e x H25 Q25 hm k25 r25 q25 => ?_) (fun e x H25 Q25 hm _ k25 r25 q25 => ?_) (fun H25 ws k25 e25 r25 => ?_) fun x => wipe_one _ _ _
          · have hme := (keptB_sub d0 es).subset hm
            refine ⟨_, rfl, _, rfl, e.data, (keptB g es).map Ent.data, C5 :: ex4, C5 :: ex4, r25, Rp.keep (k25.mono (by simp)) _ _ (Rp.apart nC5 _ _ rd24), ent_dok (lok.ok e hme), (fun u hu => ?_), _, rfl, ?_⟩
            · obtain ⟨k, hk, rfl⟩ := List.mem_map.mp hu
              exact ent_dok (okK k hk)
            · rw [notin_kept lok.nd (keptB_sub g es) lok.ok hme]
              exact q25 H25 Kp.refl
          · obtain ⟨dd1, edd1, hdd1, _⟩ := ent_reads e
            refine ⟨_, rfl, c_of (ent_ix r25 edd1 hdd1 rfl fun vi ri => ?_)⟩
            obtain rfl : vi = .str e.id := ri
            exact q25 _ H25 Kp.refl rfl
          have k2425 : Kp [] H24 H25 := Kp.drop k25 nC5
          have C5X := l24.fresh nC5
          have ews5 : ws = (lostS g (keptB d0 es)).map V.str := by
            have : ((keptB d0 es).filter fun e => decide (e.id ∉ (keptB g es).map Ent.id)).map (fun e => PyData.str e.id) = (lostS g (keptB d0 es)).map PyData.str := by unfold lostS; rw [idem dg, List.map_map]; rfl
            rw [this] at r25
            exact strs_of r25
          rw [ews5] at e25
          have k0 := k24'.trans k2425
          have rd25 := Rp.keep (k2425.mono (ex' := ex4) (by simp)) _ _ rd24
          have rh25 := Rp.keep (k2425.mono (ex' := ex4) (by simp)) _ _ rh24
          have r25l := Rp.keep (k2425.mono (ex' := ex4) (by simp)) _ _ r24
          have l25 := l24.kp0 k2425
          have hR25 := k2425 _ _ (by simp) hR24
          rw [ehs] at rh25
          refine ⟨_, rfl, _, rfl, ne_logs okK rh25 rd25 ⟨_, rfl, iteF ?_⟩⟩
          refine ⟨_, rfl, _, rfl, R, _, 0, _, rfl, rfl, .inl (.inl hR25), at0, rfl, rfl, .ref pl, keptB d0 es, d0, ex4, rfl, r25l, kok d0, klen d0, by omega, d09, l25, idem (Int.le_refl _), fun ps H26 nps k26 s26 l26 => ?_⟩
          obtain ⟨dx6, lv6, ra6, na6, ns6, h6, _⟩ := id s26.ob
          refine ⟨ps, dx6, _, rfl, h6, rfl, _, rfl, ps, keptB d0 es, d0, g, [], ps :: ex4, rfl, s26, by simp, kok d0, klen d0, g0, dg, d09, l26, fun dd H27 k27 n27 e27 s27 => ?_⟩
          have C5p : C5 ∉ [ps] := fun z => by rw [List.mem_singleton.mp z, nps] at e25; cases e25
          have hsub : ∀ z ∈ lostS g (keptB d0 es), idB z = true := fun z hz => by
            obtain ⟨e, he, rfl⟩ := List.mem_map.mp hz
            exact nms.idb _ (hid ▸ List.mem_map_of_mem ((keptB_sub d0 es).subset (List.mem_filter.mp he).1))
          refine ⟨_, rfl, ne_ids hsub e27 (k27 _ _ C5p (k26 _ _ (by simp) e25)) ⟨_, rfl, iteF ?_⟩⟩
          refine ⟨_, _, _, _, _, _, _, _, _, _, _, _, _, _, _, _, _, _, rfl, ?_⟩
          have psD := (d22.keep k0).fresh nps
          exact (((d22.keep k0).keep k26).off2 k27 (by simpa using psD)).less (by omega)
  · rintro σ H1 ⟨_, _, _, _, _, _, _, _, _, _, _, _, _, _, _, _, _, _, rfl, _⟩
    exact q _
end
end NV
/-! EndD -/
set_option Elab.async false
set_option linter.all false
set_option maxRecDepth 100000
set_option maxHeartbeats 600000
/-! a def of the top with one default, None -/
namespace NV
open PySem PySem.Spec PyProof.Rows L2
def AtD (K : PySem.W.Frag) (nm : Str) (st : Stmt) (dvs : List V) : Prop := ∃ (f : Addr) (fd : FuncData), PySem.W.nsIn K mainGlobals nm = some (some (.ref f)) ∧ FunD K nm nm (defArgs st) (defBody st) (defScope st) dvs [] f fd
section
variable {K : PySem.W.Frag} {h : Heap} {mg : Str → Option Value} {nm : Str} {st : Stmt}
theorem atD_mk {f T : Addr} {oc oT : Value} {od dT : Option Addr} {kV doc pm : Value} {an : Option Addr} {cd ct : Value} {sl sT : Array (Option Value)} {n : Nat} (a : PySem.W.nsIn K mainGlobals nm = some (some (.ref f))) (l : K.lookup f = some ⟨oc, od, .func (PySem.W.fnOf nm nm (defArgs st) (defBody st) (defScope st) (.ref T) kV doc pm an cd ct), sl⟩)
    (c : PySem.W.codeIn K cd nm = true) (k : PySem.W.keepIn K (.ref f) = true) (t : K.lookup T = some ⟨oT, dT, .seq #[Value.none] n, sT⟩) : AtD K nm st [.non] :=
  ⟨f, _, a, ⟨⟨oc, od, .ref T, kV, doc, pm, an, cd, ct, sl, rfl, l, c, .inr ⟨by simp, T, _, [Value.none], n, rfl, t, rfl, .cons rfl .nil⟩, .inl rfl⟩, k⟩⟩
theorem fnd_at {ps : List Str} {dvs : List V} (X : K.In h) (G : h.Ns mainGlobals mg) (a : AtD K nm st (dvs := dvs)) (n : Nat) (hn : n + (dvs.length - 0) = ps.length)
    (hb : ∀ (T : Addr) (kV doc pm : Value) (an : Option Addr) (cdv ct : Value) (us its : List Value), us.length = n → its.length = dvs.length →
      ∃ k, bindArgs (PySem.W.fnOf nm nm (defArgs st) (defBody st) (defScope st) (.ref T) kV doc pm an cdv ct) ⟨us, []⟩ = seqItems? (.ref T) >>= k ∧ k (some its.toArray) = pure (ps.zip (us ++ its.drop 0))) 
    (hf : ∀ (T : Addr) (kV doc pm : Value) (an : Option Addr) (cdv ct : Value) (us its : List Value), us.length = ps.length → its.length = dvs.length →
      ∃ k, bindArgs (PySem.W.fnOf nm nm (defArgs st) (defBody st) (defScope st) (.ref T) kV doc pm an cdv ct) ⟨us, []⟩ = seqItems? (.ref T) >>= k ∧ k (some its.toArray) = pure (ps.zip us)) (hd : dvs ≠ [] := by simp) : Nonempty (FnD K mg nm st ps dvs) := by
  obtain ⟨f, fd, a1, F⟩ := a
  obtain ⟨ds, hv, b⟩ := F.binds1 n 0 hd hn hb
  obtain ⟨ds2, hv2, b2⟩ := F.binds1 ps.length dvs.length (ps := ps) hd (by omega) fun T kV doc pm an cdv ct us its h1 h2 => by
    obtain ⟨k, e1, e2⟩ := hf T kV doc pm an cdv ct us its h1 h2
    exact ⟨k, e1, by rw [List.drop_of_length_le (by omega), List.append_nil]; exact e2⟩
  rw [List.drop_length] at hv2
  cases hv2
  exact ⟨⟨f, fd, F, PySem.W.mg_of X G a1, ds, hv, b, b2⟩⟩
end
end NV
/-! E29 -/
set_option Elab.async false
set_option linter.all false
set_option maxRecDepth 100000
set_option maxHeartbeats 2000000
namespace NV
open PySem PySem.Spec PyProof.Rows L2
theorem all_mk {l : PySem.W.OpenLaw} {w : World} {K : PySem.W.Frag} {h : Heap} {mg : Str → Option Value} {fa : Addr} (X : K.In h) (G : h.Ns mainGlobals mg) (hmg : mg "law" = some (.ref fa))
    (aIsIntegerWithin : At K "is_integer_within" sIsIntegerWithin)
    (aIsId : At K "is_id" sIsId)
    (aIsCell : At K "is_cell" sIsCell)
    (aIsCells : At K "is_cells" sIsCells)
    (aIsPrice : At K "is_price" sIsPrice)
    (aIsEntryWith : At K "is_entry_with" sIsEntryWith)
    (aIsEntry : At K "is_entry" sIsEntry)
    (aIsLogWithin : At K "is_log_within" sIsLogWithin)
    (aIsLog : At K "is_log" sIsLog)
    (aCheckLog : At K "check_log" sCheckLog)
    (aCheckMayBeRetracted : At K "check_may_be_retracted" sCheckMayBeRetracted)
    (aWayOnward : At K "way_onward" sWayOnward)
    (aWayFrom : At K "way_from" sWayFrom)
    (aAddBlocker : At K "add_blocker" sAddBlocker)
    (aAddReader : At K "add_reader" sAddReader)
    (aCheckBudget : At K "check_budget" sCheckBudget)
    (aIsWithin : At K "is_within" sIsWithin)
    (aKeptEntries : At K "kept_entries" sKeptEntries)
    (aCheckCompact : At K "check_compact" sCheckCompact)
    (aLawBegin : At K "_law_begin" sLawBegin)
    (aLawTake : At K "_law_take" sLawTake)
    (aLawPick : At K "_law_pick" sLawPick)
    (aLawNames : At K "_law_names" sLawNames)
    (aLawCells : At K "_law_cells" sLawCells)
    (aLawSome : At K "_law_some" sLawSome)
    (aLawEntry : At K "_law_entry" sLawEntry)
    (aLawLimit : At K "_law_limit" sLawLimit)
    (aLawEdges : At K "_law_edges" sLawEdges)
    (aLawKept : At K "_law_kept" sLawKept)
    (aLawFilled : At K "_law_filled" sLawFilled)
    (aLaw : At K "law" sLaw)
    {cStore : Addr} (xStore : PySem.W.nsIn K mainGlobals "Store" = some (some (.ref cStore))) (kStore : clsB K cStore ["_log", "_budget", "_retracted", "_notes"] = true)
    (aStoreInit : AtMD K cStore "__init__" "Store.__init__" sStoreInit [.int 10])
    (aStoreKeep : AtM K cStore "_keep" "Store._keep" sStoreKeep)
    (aStoreAdd : AtM K cStore "add" "Store.add" sStoreAdd)
    (aStoreLowerBudget : AtM K cStore "lower_budget" "Store.lower_budget" sStoreLowerBudget)
    (aStoreLog : AtM K cStore "log" "Store.log" sStoreLog)
    (aStoreBudget : AtM K cStore "budget" "Store.budget" sStoreBudget)
    (aGoBack : AtD K "go_back" sGoBack [.non])
    (aCheapestWays : AtD K "cheapest_ways" sCheapestWays [.non])
    (aCompacted : AtQ K "compacted" sCompacted "budget" (IsIntV 10))
    (aIsCompact : AtQ K "is_compact" sIsCompact "budget" (IsIntV 10))
    (aStoreOf : AtQ K "store_of" sStoreOf "budget" (IsIntV 10))
    (iKIND : AtI K "KIND" 0)
    (iID : AtI K "ID" 1)
    (iREADS : AtI K "READS" 2)
    (iWRITES : AtI K "WRITES" 3)
    (iPRICE : AtI K "PRICE" 4)
    (iLONGEST_CELL : AtI K "LONGEST_CELL" 4)
    (iLONGEST_ID : AtI K "LONGEST_ID" 6)
    (iMOST_CELLS : AtI K "MOST_CELLS" 3)
    (iHIGHEST_PRICE : AtI K "HIGHEST_PRICE" 99)
    (iMOST_ENTRIES : AtI K "MOST_ENTRIES" 60)
    (iDEFAULT_BUDGET : AtI K "DEFAULT_BUDGET" 10)
    (iHIGHEST_BUDGET : AtI K "HIGHEST_BUDGET" 999)
    (iEND : AtS K "END" "")
    (z_abs : PySem.W.nsIn K mainGlobals "abs" = some none)
    (z_bool : PySem.W.nsIn K mainGlobals "bool" = some none)
    (z_int : PySem.W.nsIn K mainGlobals "int" = some none)
    (z_isinstance : PySem.W.nsIn K mainGlobals "isinstance" = some none)
    (z_len : PySem.W.nsIn K mainGlobals "len" = some none)
    (z_min : PySem.W.nsIn K mainGlobals "min" = some none)
    (z_range : PySem.W.nsIn K mainGlobals "range" = some none)
    (z_reversed : PySem.W.nsIn K mainGlobals "reversed" = some none)
    (z_sorted : PySem.W.nsIn K mainGlobals "sorted" = some none)
    (z_str : PySem.W.nsIn K mainGlobals "str" = some none)
    (z_tuple : PySem.W.nsIn K mainGlobals "tuple" = some none)
    : LawG l w K CX0 15 63 "script" mg fa h := by
  have b_abs := PySem.W.mg_none_of X G z_abs
  have b_bool := PySem.W.mg_none_of X G z_bool
  have b_int := PySem.W.mg_none_of X G z_int
  have b_isinstance := PySem.W.mg_none_of X G z_isinstance
  have b_len := PySem.W.mg_none_of X G z_len
  have b_min := PySem.W.mg_none_of X G z_min
  have b_range := PySem.W.mg_none_of X G z_range
  have b_reversed := PySem.W.mg_none_of X G z_reversed
  have b_sorted := PySem.W.mg_none_of X G z_sorted
  have b_str := PySem.W.mg_none_of X G z_str
  have b_tuple := PySem.W.mg_none_of X G z_tuple
  have gKIND := at_int X G iKIND
  have gID := at_int X G iID
  have gREADS := at_int X G iREADS
  have gWRITES := at_int X G iWRITES
  have gPRICE := at_int X G iPRICE
  have gLONGEST_CELL := at_int X G iLONGEST_CELL
  have gLONGEST_ID := at_int X G iLONGEST_ID
  have gMOST_CELLS := at_int X G iMOST_CELLS
  have gHIGHEST_PRICE := at_int X G iHIGHEST_PRICE
  have gMOST_ENTRIES := at_int X G iMOST_ENTRIES
  have gDEFAULT_BUDGET := at_int X G iDEFAULT_BUDGET
  have gHIGHEST_BUDGET := at_int X G iHIGHEST_BUDGET
  have gEND := at_str X G iEND
  have gStore := PySem.W.mg_of X G xStore
  obtain ⟨DStoreInit⟩ := mtd_at aStoreInit (ps := ["self", "budget"]) fun _ _ _ _ _ _ _ us its hl hi => match us, its, hl, hi with | [_, _], [_], _, _ => ⟨_, rfl, rfl⟩
  obtain ⟨DStoreKeep⟩ := mt_at aStoreKeep (ps := ["self", "log", "budget"]) fun _ _ _ _ _ _ us hl => match us, hl with | [_, _, _], _ => rfl
  obtain ⟨DStoreAdd⟩ := mt_at aStoreAdd (ps := ["self", "entry"]) fun _ _ _ _ _ _ us hl => match us, hl with | [_, _], _ => rfl
  obtain ⟨DStoreLowerBudget⟩ := mt_at aStoreLowerBudget (ps := ["self", "budget"]) fun _ _ _ _ _ _ us hl => match us, hl with | [_, _], _ => rfl
  obtain ⟨DStoreLog⟩ := mt_at aStoreLog (ps := ["self"]) fun _ _ _ _ _ _ us hl => match us, hl with | [_], _ => rfl
  obtain ⟨DStoreBudget⟩ := mt_at aStoreBudget (ps := ["self"]) fun _ _ _ _ _ _ us hl => match us, hl with | [_], _ => rfl
  obtain ⟨DIsIntegerWithin⟩ := fn_at X G aIsIntegerWithin (ps := ["value", "lowest", "highest"]) fun _ _ _ _ _ _ us hl => match us, hl with | [_, _, _], _ => rfl
  obtain ⟨DIsId⟩ := fn_at X G aIsId (ps := ["value"]) fun _ _ _ _ _ _ us hl => match us, hl with | [_], _ => rfl
  obtain ⟨DIsCell⟩ := fn_at X G aIsCell (ps := ["value"]) fun _ _ _ _ _ _ us hl => match us, hl with | [_], _ => rfl
  obtain ⟨DIsCells⟩ := fn_at X G aIsCells (ps := ["value", "fewest", "known"]) fun _ _ _ _ _ _ us hl => match us, hl with | [_, _, _], _ => rfl
  obtain ⟨DIsPrice⟩ := fn_at X G aIsPrice (ps := ["value"]) fun _ _ _ _ _ _ us hl => match us, hl with | [_], _ => rfl
  obtain ⟨DIsEntryWith⟩ := fn_at X G aIsEntryWith (ps := ["value", "known"]) fun _ _ _ _ _ _ us hl => match us, hl with | [_, _], _ => rfl
  obtain ⟨DIsEntry⟩ := fn_at X G aIsEntry (ps := ["value"]) fun _ _ _ _ _ _ us hl => match us, hl with | [_], _ => rfl
  obtain ⟨DIsLogWithin⟩ := fn_at X G aIsLogWithin (ps := ["value", "most"]) fun _ _ _ _ _ _ us hl => match us, hl with | [_, _], _ => rfl
  obtain ⟨DIsLog⟩ := fn_at X G aIsLog (ps := ["value"]) fun _ _ _ _ _ _ us hl => match us, hl with | [_], _ => rfl
  obtain ⟨DCheckLog⟩ := fn_at X G aCheckLog (ps := ["log"]) fun _ _ _ _ _ _ us hl => match us, hl with | [_], _ => rfl
  obtain ⟨DCheckMayBeRetracted⟩ := fn_at X G aCheckMayBeRetracted (ps := ["entry"]) fun _ _ _ _ _ _ us hl => match us, hl with | [_], _ => rfl
  obtain ⟨DWayOnward⟩ := fn_at X G aWayOnward (ps := ["onward", "cell"]) fun _ _ _ _ _ _ us hl => match us, hl with | [_, _], _ => rfl
  obtain ⟨DWayFrom⟩ := fn_at X G aWayFrom (ps := ["onward", "entry"]) fun _ _ _ _ _ _ us hl => match us, hl with | [_, _], _ => rfl
  obtain ⟨DAddBlocker⟩ := fn_at X G aAddBlocker (ps := ["onward", "entry"]) fun _ _ _ _ _ _ us hl => match us, hl with | [_, _], _ => rfl
  obtain ⟨DAddReader⟩ := fn_at X G aAddReader (ps := ["onward", "entry", "way"]) fun _ _ _ _ _ _ us hl => match us, hl with | [_, _, _], _ => rfl
  obtain ⟨DCheckBudget⟩ := fn_at X G aCheckBudget (ps := ["budget"]) fun _ _ _ _ _ _ us hl => match us, hl with | [_], _ => rfl
  obtain ⟨DIsWithin⟩ := fn_at X G aIsWithin (ps := ["way", "budget"]) fun _ _ _ _ _ _ us hl => match us, hl with | [_, _], _ => rfl
  obtain ⟨DKeptEntries⟩ := fn_at X G aKeptEntries (ps := ["log", "budget"]) fun _ _ _ _ _ _ us hl => match us, hl with | [_, _], _ => rfl
  obtain ⟨DCheckCompact⟩ := fn_at X G aCheckCompact (ps := ["log", "budget"]) fun _ _ _ _ _ _ us hl => match us, hl with | [_, _], _ => rfl
  obtain ⟨DLawBegin⟩ := fn_at X G aLawBegin (ps := ["script"]) fun _ _ _ _ _ _ us hl => match us, hl with | [_], _ => rfl
  obtain ⟨DLawTake⟩ := fn_at X G aLawTake (ps := ["draw", "size"]) fun _ _ _ _ _ _ us hl => match us, hl with | [_, _], _ => rfl
  obtain ⟨DLawPick⟩ := fn_at X G aLawPick (ps := ["draw", "some"]) fun _ _ _ _ _ _ us hl => match us, hl with | [_, _], _ => rfl
  obtain ⟨DLawNames⟩ := fn_at X G aLawNames (ps := ["draw", "many"]) fun _ _ _ _ _ _ us hl => match us, hl with | [_, _], _ => rfl
  obtain ⟨DLawCells⟩ := fn_at X G aLawCells (ps := ["draw"]) fun _ _ _ _ _ _ us hl => match us, hl with | [_], _ => rfl
  obtain ⟨DLawSome⟩ := fn_at X G aLawSome (ps := ["draw", "cells", "least"]) fun _ _ _ _ _ _ us hl => match us, hl with | [_, _, _], _ => rfl
  obtain ⟨DLawEntry⟩ := fn_at X G aLawEntry (ps := ["draw", "name", "cells"]) fun _ _ _ _ _ _ us hl => match us, hl with | [_, _, _], _ => rfl
  obtain ⟨DLawLimit⟩ := fn_at X G aLawLimit (ps := ["draw"]) fun _ _ _ _ _ _ us hl => match us, hl with | [_], _ => rfl
  obtain ⟨DLawEdges⟩ := fn_at X G aLawEdges (ps := ["entries"]) fun _ _ _ _ _ _ us hl => match us, hl with | [_], _ => rfl
  obtain ⟨DLawKept⟩ := fn_at X G aLawKept (ps := ["entries", "limit"]) fun _ _ _ _ _ _ us hl => match us, hl with | [_, _], _ => rfl
  obtain ⟨DLawFilled⟩ := fn_at X G aLawFilled (ps := ["draw", "store", "entries", "goal"]) fun _ _ _ _ _ _ us hl => match us, hl with | [_, _, _, _], _ => rfl
  obtain ⟨DLaw⟩ := fn_at X G aLaw (ps := ["script"]) fun _ _ _ _ _ _ us hl => match us, hl with | [_], _ => rfl
  obtain ⟨DGoBack⟩ := fnd_at X G aGoBack (ps := ["onward", "entry", "labels"]) 2 rfl (fun _ _ _ _ _ _ _ us its hl hi => match us, its, hl, hi with | [_, _], [_], _, _ => ⟨_, rfl, rfl⟩) fun _ _ _ _ _ _ _ us its hl hi => match us, its, hl, hi with | [_, _, _], [_], _, _ => ⟨_, rfl, rfl⟩
  obtain ⟨DCheapestWays⟩ := fnd_at X G aCheapestWays (ps := ["log", "labels"]) 1 rfl (fun _ _ _ _ _ _ _ us its hl hi => match us, its, hl, hi with | [_], [_], _, _ => ⟨_, rfl, rfl⟩) fun _ _ _ _ _ _ _ us its hl hi => match us, its, hl, hi with | [_, _], [_], _, _ => ⟨_, rfl, rfl⟩
  obtain ⟨DCompacted, uCompacted, pCompacted, LCompacted⟩ := fnq_at (ps := ["log", "budget"]) 1 X G aCompacted rfl fun _ _ _ _ _ _ us ks h1 h2 => match us, ks, h1, h2 with | [_], [_], _, _ => ⟨_, _, _, _, _, _, rfl, rfl, rfl⟩
  obtain ⟨DIsCompact, uIsCompact, pIsCompact, LIsCompact⟩ := fnq_at (ps := ["log", "budget"]) 1 X G aIsCompact rfl fun _ _ _ _ _ _ us ks h1 h2 => match us, ks, h1, h2 with | [_], [_], _, _ => ⟨_, _, _, _, _, _, rfl, rfl, rfl⟩
  obtain ⟨DStoreOf, uStoreOf, pStoreOf, LStoreOf⟩ := fnq_at (ps := ["log", "budget"]) 1 X G aStoreOf rfl fun _ _ _ _ _ _ us ks h1 h2 => match us, ks, h1, h2 with | [_], [_], _, _ => ⟨_, _, _, _, _, _, rfl, rfl, rfl⟩
  obtain rfl : fa = DLaw.f := by
    have e := hmg.symm.trans DLaw.m
    cases e
    rfl
  refine ⟨DLaw.fd, [], spLaw K, ⟨(fun p hp => by cases hp), (fun p hp => by cases hp), fun p hp => by cases hp⟩, law_binds DLaw.F (fun _ _ _ _ _ _ u => rfl), fun H a ns hl _ _ hS => ⟨a, ns, rfl, hS, hl, fun H' => rfl⟩, fun base KB NB _ => .of ?_⟩
  obtain ⟨T, kMk, kKp⟩ := stTxt_of kStore
  have MStore := mkS_of DStoreInit gStore kMk kKp
  have BCompacted1 : KBn K DCompacted.fd ["log", "budget"] 1 ["budget"] (· ++ ·) (· ++ ·) := kbn_mk DCompacted.F (fun _ _ _ _ _ _ us ws h1 h2 => match us, ws, h1, h2 with | [_], [_], _, _ => rfl) fun r1 r2 => r1.append r2
  have BIsCompact1 : KBn K DIsCompact.fd ["log", "budget"] 1 ["budget"] (· ++ ·) (· ++ ·) := kbn_mk DIsCompact.F (fun _ _ _ _ _ _ us ws h1 h2 => match us, ws, h1, h2 with | [_], [_], _, _ => rfl) fun r1 r2 => r1.append r2
  have BStoreOf1 : KBn K DStoreOf.fd ["log", "budget"] 1 ["budget"] (· ++ ·) (· ++ ·) := kbn_mk DStoreOf.F (fun _ _ _ _ _ _ us ws h1 h2 => match us, ws, h1, h2 with | [_], [_], _, _ => rfl) fun r1 r2 => r1.append r2
  let DC : FnK K mg "compacted" sCompacted ["log", "budget"] 1 ["budget"] := ⟨DCompacted.f, DCompacted.fd, DCompacted.F, DCompacted.m, BCompacted1⟩
  let DIC : FnK K mg "is_compact" sIsCompact ["log", "budget"] 1 ["budget"] := ⟨DIsCompact.f, DIsCompact.fd, DIsCompact.F, DIsCompact.m, BIsCompact1⟩
  have GIsIntegerWithin := ok_pwithin (P := l.prog) (w := w) (base := base) DIsIntegerWithin b_isinstance b_int b_bool
  have GIsPrice := ok_pprice (P := l.prog) (w := w) (base := base) DIsPrice DIsIntegerWithin gHIGHEST_PRICE GIsIntegerWithin
  have GIsId := ok_pid (P := l.prog) (w := w) (base := base) DIsId b_isinstance b_len b_str gLONGEST_ID
  have GIsCell := ok_pcell (P := l.prog) (w := w) (base := base) DIsCell DIsId b_len gLONGEST_CELL GIsId
  have GIsCells := ok_pcells (P := l.prog) (w := w) (base := base) DIsCells DIsCell b_isinstance b_len b_tuple b_str gMOST_CELLS GIsCell
  have GIsEntryWith := ok_pentryk (P := l.prog) (w := w) (base := base) DIsEntryWith DIsId DIsPrice DIsCells b_isinstance b_len b_tuple GIsId GIsPrice GIsCells
  have GIsLogWithin := ok_plogw (P := l.prog) (w := w) (base := base) DIsLogWithin DIsEntryWith b_isinstance b_len b_tuple gID GIsEntryWith
  have GIsLog := ok_plog (P := l.prog) (w := w) (base := base) DIsLog DIsLogWithin gMOST_ENTRIES GIsLogWithin
  have GCheckLog := ok_checklog (P := l.prog) (w := w) (base := base) DCheckLog DIsLog GIsLog
  have GWayOnward := ok_onward (P := l.prog) (w := w) (base := base) DWayOnward gEND
  have GWayFrom := ok_wayfrom (P := l.prog) (w := w) (base := base) DWayFrom DWayOnward b_min gWRITES GWayOnward
  have GAddBlocker := ok_addblocker (P := l.prog) (w := w) (base := base) DAddBlocker DWayOnward gWRITES gPRICE GWayOnward
  have GAddReader := ok_addreader (P := l.prog) (w := w) (base := base) DAddReader DWayOnward gREADS gID GWayOnward
  have GGoBack := ok_goback (P := l.prog) (w := w) (base := base) DGoBack DWayFrom DAddBlocker DAddReader gKIND gID GWayFrom GAddBlocker GAddReader
  have GCheapestWays := ok_ways (P := l.prog) (w := w) (base := base) DCheapestWays DGoBack b_reversed gKIND gID GGoBack
  have GCheckBudget := ok_budget (P := l.prog) (w := w) (base := base) DCheckBudget DIsIntegerWithin gHIGHEST_BUDGET GIsIntegerWithin
  have GIsWithin := ok_in (P := l.prog) (w := w) (base := base) DIsWithin
  have GKeptEntries := ok_kept (P := l.prog) (w := w) (base := base) DKeptEntries DCheapestWays DIsWithin b_tuple gKIND gID GCheapestWays GIsWithin
  have GCompacted := ok_compacted (P := l.prog) (w := w) (base := base) DC DCheckLog DCheckBudget DKeptEntries GCheckLog GCheckBudget GKeptEntries
  have GIsCompact := ok_iscompact (P := l.prog) (w := w) (base := base) DIC DC GCompacted
  have GIsEntry := ok_pentry (P := l.prog) (w := w) (base := base) DIsEntry DIsEntryWith GIsEntryWith
  have GCheckMayBeRetracted := ok_maybe (P := l.prog) (w := w) (base := base) DCheckMayBeRetracted gKIND gPRICE
  have GStoreLog := ok_stlog (mg := mg) (P := l.prog) (w := w) (base := base) DStoreLog T
  have GStoreBudget := ok_stbud (mg := mg) (P := l.prog) (w := w) (base := base) DStoreBudget T
  have GStoreInit := ok_stinit (P := l.prog) (w := w) (base := base) DStoreInit T DCheckBudget GCheckBudget
  have GStoreKeep := ok_stkeep (P := l.prog) (w := w) (base := base) DStoreKeep T DKeptEntries gID GKeptEntries
  have GStoreLowerBudget := ok_stlow (P := l.prog) (w := w) (base := base) DStoreLowerBudget T DStoreKeep DCheckBudget GCheckBudget GStoreKeep
  have GStoreAdd := ok_stadd (P := l.prog) (w := w) (base := base) DStoreAdd T DStoreKeep DIsEntry DCheckMayBeRetracted b_len gID gMOST_ENTRIES GIsEntry GCheckMayBeRetracted GStoreKeep
  have GCheckCompact := ok_checkcomp (P := l.prog) (w := w) (base := base) DCheckCompact DKeptEntries GKeptEntries
  have GStoreOf := ok_storeof (P := l.prog) (w := w) (base := base) DStoreOf DStoreInit MStore T DCheckLog DCheckBudget DCheckCompact GCheckLog GCheckBudget GCheckCompact GStoreInit
  have GLawTake := ok_take (P := l.prog) (w := w) (base := base) DLawTake b_len
  have GLawPick := ok_pick (P := l.prog) (w := w) (base := base) DLawPick DLawTake b_len GLawTake
  have GLawSome := ok_some (P := l.prog) (w := w) (base := base) DLawSome DLawTake DLawPick b_len b_tuple GLawTake GLawPick
  have GLawCells := ok_cells (P := l.prog) (w := w) (base := base) DLawCells DLawTake b_len b_sorted b_range GLawTake
  have GLawNames := ok_names (P := l.prog) (w := w) (base := base) DLawNames DLawPick b_str b_range GLawPick
  have GLawEntry := ok_entry (P := l.prog) (w := w) (base := base) DLawEntry DLawTake DLawPick DLawSome GLawTake GLawPick GLawSome
  have GLawLimit := ok_limit (P := l.prog) (w := w) (base := base) DLawLimit DLawTake DLawPick GLawTake GLawPick
  have GLawBegin := ok_begin (P := l.prog) (w := w) (base := base) DLawBegin b_abs
  have GLawEdges := ok_edgk (P := l.prog) (w := w) (base := base) DLawEdges b_range b_len
  have GLawKept := ok_keptk (P := l.prog) (w := w) (base := base) DLawKept DLawEdges b_range b_len b_tuple GLawEdges
  have GLawFilled := ok_filled (P := l.prog) (w := w) (base := base) DLawFilled T DStoreAdd DStoreLowerBudget DStoreBudget DLawTake GStoreAdd GStoreLowerBudget GStoreBudget GLawTake
  exact ok_law DLaw DLawBegin DLawTake DLawCells DLawNames DLawLimit DLawEntry DLawKept DLawFilled T DStoreInit MStore DStoreAdd DStoreLowerBudget DStoreLog DCompacted BCompacted1 DIsCompact BIsCompact1 DStoreOf BStoreOf1 b_len b_range b_min b_tuple b_sorted GLawBegin GLawTake GLawCells GLawNames GLawLimit GLawEntry GLawKept GLawFilled GStoreInit GStoreAdd GStoreLowerBudget GStoreLog GCompacted GIsCompact GStoreOf
end NV
open PySem PySem.W PyProof.Rows
set_option maxRecDepth 100000 in
set_option maxHeartbeats 0 in
theorem PySem.Challenge.cw_neverwas_k29_whole_budgets_lowered_holds : PySem.Challenge.rw_neverwas_k29_whole_budgets_lowered.Holds := by
  w_on; o_law; k_head; (case hw => w_witness2)
  k_fill
  refine NV.walk_ofG (l := PySem.Challenge.rw_neverwas_k29_whole_budgets_lowered) (n := 63) (k := 15) (x := "script") rfl (by decide) rfl ⟨rfl, by decide, by decide⟩ (fun w h Y => PySem.W.kIn_of Y) ?F
  case F =>
    intro w mg fa h Y KX G hmg
    refine' NV.all_mk KX G hmg ?aIsIntegerWithin ?aIsId ?aIsCell ?aIsCells ?aIsPrice ?aIsEntryWith ?aIsEntry ?aIsLogWithin ?aIsLog ?aCheckLog ?aCheckMayBeRetracted ?aWayOnward ?aWayFrom ?aAddBlocker ?aAddReader ?aCheckBudget ?aIsWithin ?aKeptEntries ?aCheckCompact ?aLawBegin ?aLawTake ?aLawPick ?aLawNames ?aLawCells ?aLawSome ?aLawEntry ?aLawLimit ?aLawEdges ?aLawKept ?aLawFilled ?aLaw ?xStore ?kStore ?aStoreInit ?aStoreKeep ?aStoreAdd ?aStoreLowerBudget ?aStoreLog ?aStoreBudget ?aGoBack ?aCheapestWays ?aCompacted ?aIsCompact ?aStoreOf ?iKIND ?iID ?iREADS ?iWRITES ?iPRICE ?iLONGEST_CELL ?iLONGEST_ID ?iMOST_CELLS ?iHIGHEST_PRICE ?iMOST_ENTRIES ?iDEFAULT_BUDGET ?iHIGHEST_BUDGET ?iEND ?z_abs ?z_bool ?z_int ?z_isinstance ?z_len ?z_min ?z_range ?z_reversed ?z_sorted ?z_str ?z_tuple
    (case aIsIntegerWithin => refine' NV.at_mk ?a ?l ?c ?k; (case a => k_is); (case l => k_is); (case c => k_is); (case k => k_is))
    (case aIsId => refine' NV.at_mk ?a ?l ?c ?k; (case a => k_is); (case l => k_is); (case c => k_is); (case k => k_is))
    (case aIsCell => refine' NV.at_mk ?a ?l ?c ?k; (case a => k_is); (case l => k_is); (case c => k_is); (case k => k_is))
    (case aIsCells => refine' NV.at_mk ?a ?l ?c ?k; (case a => k_is); (case l => k_is); (case c => k_is); (case k => k_is))
    (case aIsPrice => refine' NV.at_mk ?a ?l ?c ?k; (case a => k_is); (case l => k_is); (case c => k_is); (case k => k_is))
    (case aIsEntryWith => refine' NV.at_mk ?a ?l ?c ?k; (case a => k_is); (case l => k_is); (case c => k_is); (case k => k_is))
    (case aIsEntry => refine' NV.at_mk ?a ?l ?c ?k; (case a => k_is); (case l => k_is); (case c => k_is); (case k => k_is))
    (case aIsLogWithin => refine' NV.at_mk ?a ?l ?c ?k; (case a => k_is); (case l => k_is); (case c => k_is); (case k => k_is))
    (case aIsLog => refine' NV.at_mk ?a ?l ?c ?k; (case a => k_is); (case l => k_is); (case c => k_is); (case k => k_is))
    (case aCheckLog => refine' NV.at_mk ?a ?l ?c ?k; (case a => k_is); (case l => k_is); (case c => k_is); (case k => k_is))
    (case aCheckMayBeRetracted => refine' NV.at_mk ?a ?l ?c ?k; (case a => k_is); (case l => k_is); (case c => k_is); (case k => k_is))
    (case aWayOnward => refine' NV.at_mk ?a ?l ?c ?k; (case a => k_is); (case l => k_is); (case c => k_is); (case k => k_is))
    (case aWayFrom => refine' NV.at_mk ?a ?l ?c ?k; (case a => k_is); (case l => k_is); (case c => k_is); (case k => k_is))
    (case aAddBlocker => refine' NV.at_mk ?a ?l ?c ?k; (case a => k_is); (case l => k_is); (case c => k_is); (case k => k_is))
    (case aAddReader => refine' NV.at_mk ?a ?l ?c ?k; (case a => k_is); (case l => k_is); (case c => k_is); (case k => k_is))
    (case aCheckBudget => refine' NV.at_mk ?a ?l ?c ?k; (case a => k_is); (case l => k_is); (case c => k_is); (case k => k_is))
    (case aIsWithin => refine' NV.at_mk ?a ?l ?c ?k; (case a => k_is); (case l => k_is); (case c => k_is); (case k => k_is))
    (case aKeptEntries => refine' NV.at_mk ?a ?l ?c ?k; (case a => k_is); (case l => k_is); (case c => k_is); (case k => k_is))
    (case aCheckCompact => refine' NV.at_mk ?a ?l ?c ?k; (case a => k_is); (case l => k_is); (case c => k_is); (case k => k_is))
    (case aLawBegin => refine' NV.at_mk ?a ?l ?c ?k; (case a => k_is); (case l => k_is); (case c => k_is); (case k => k_is))
    (case aLawTake => refine' NV.at_mk ?a ?l ?c ?k; (case a => k_is); (case l => k_is); (case c => k_is); (case k => k_is))
    (case aLawPick => refine' NV.at_mk ?a ?l ?c ?k; (case a => k_is); (case l => k_is); (case c => k_is); (case k => k_is))
    (case aLawNames => refine' NV.at_mk ?a ?l ?c ?k; (case a => k_is); (case l => k_is); (case c => k_is); (case k => k_is))
    (case aLawCells => refine' NV.at_mk ?a ?l ?c ?k; (case a => k_is); (case l => k_is); (case c => k_is); (case k => k_is))
    (case aLawSome => refine' NV.at_mk ?a ?l ?c ?k; (case a => k_is); (case l => k_is); (case c => k_is); (case k => k_is))
    (case aLawEntry => refine' NV.at_mk ?a ?l ?c ?k; (case a => k_is); (case l => k_is); (case c => k_is); (case k => k_is))
    (case aLawLimit => refine' NV.at_mk ?a ?l ?c ?k; (case a => k_is); (case l => k_is); (case c => k_is); (case k => k_is))
    (case aLawEdges => refine' NV.at_mk ?a ?l ?c ?k; (case a => k_is); (case l => k_is); (case c => k_is); (case k => k_is))
    (case aLawKept => refine' NV.at_mk ?a ?l ?c ?k; (case a => k_is); (case l => k_is); (case c => k_is); (case k => k_is))
    (case aLawFilled => refine' NV.at_mk ?a ?l ?c ?k; (case a => k_is); (case l => k_is); (case c => k_is); (case k => k_is))
    (case aLaw => refine' NV.at_mk ?a ?l ?c ?k; (case a => k_is); (case l => k_is); (case c => k_is); (case k => k_is))
    (case xStore => k_is)
    (case kStore => kernel_rfl)
    (case aStoreInit => refine' NV.atMD_mk ?a ?i ?l ?c ?k ?t; (case a => k_is); (case i => k_is); (case l => k_is); (case c => k_is); (case k => k_is); (case t => k_is))
    (case aStoreKeep => refine' NV.atM_mk ?a ?i ?l ?c ?k; (case a => k_is); (case i => k_is); (case l => k_is); (case c => k_is); (case k => k_is))
    (case aStoreAdd => refine' NV.atM_mk ?a ?i ?l ?c ?k; (case a => k_is); (case i => k_is); (case l => k_is); (case c => k_is); (case k => k_is))
    (case aStoreLowerBudget => refine' NV.atM_mk ?a ?i ?l ?c ?k; (case a => k_is); (case i => k_is); (case l => k_is); (case c => k_is); (case k => k_is))
    (case aStoreLog => refine' NV.atM_mk ?a ?i ?l ?c ?k; (case a => k_is); (case i => k_is); (case l => k_is); (case c => k_is); (case k => k_is))
    (case aStoreBudget => refine' NV.atM_mk ?a ?i ?l ?c ?k; (case a => k_is); (case i => k_is); (case l => k_is); (case c => k_is); (case k => k_is))
    (case aGoBack => refine' NV.atD_mk ?a ?l ?c ?k ?t; (case a => k_is); (case l => k_is); (case c => k_is); (case k => k_is); (case t => k_is))
    (case aCheapestWays => refine' NV.atD_mk ?a ?l ?c ?k ?t; (case a => k_is); (case l => k_is); (case c => k_is); (case k => k_is); (case t => k_is))
    (case aCompacted => refine' NV.atQ_mk ?a ?l ?c ?k ?dq ?pq; (case a => k_is); (case l => k_is); (case c => k_is); (case k => k_is); (case dq => k_is); (case pq => exact NV.intV_mk))
    (case aIsCompact => refine' NV.atQ_mk ?a ?l ?c ?k ?dq ?pq; (case a => k_is); (case l => k_is); (case c => k_is); (case k => k_is); (case dq => k_is); (case pq => exact NV.intV_mk))
    (case aStoreOf => refine' NV.atQ_mk ?a ?l ?c ?k ?dq ?pq; (case a => k_is); (case l => k_is); (case c => k_is); (case k => k_is); (case dq => k_is); (case pq => exact NV.intV_mk))
    (case iKIND => refine' NV.atI_mk ?a; (case a => k_is))
    (case iID => refine' NV.atI_mk ?a; (case a => k_is))
    (case iREADS => refine' NV.atI_mk ?a; (case a => k_is))
    (case iWRITES => refine' NV.atI_mk ?a; (case a => k_is))
    (case iPRICE => refine' NV.atI_mk ?a; (case a => k_is))
    (case iLONGEST_CELL => refine' NV.atI_mk ?a; (case a => k_is))
    (case iLONGEST_ID => refine' NV.atI_mk ?a; (case a => k_is))
    (case iMOST_CELLS => refine' NV.atI_mk ?a; (case a => k_is))
    (case iHIGHEST_PRICE => refine' NV.atI_mk ?a; (case a => k_is))
    (case iMOST_ENTRIES => refine' NV.atI_mk ?a; (case a => k_is))
    (case iDEFAULT_BUDGET => refine' NV.atI_mk ?a; (case a => k_is))
    (case iHIGHEST_BUDGET => refine' NV.atI_mk ?a; (case a => k_is))
    (case iEND => refine' NV.atS_mk ?a; (case a => k_is))
    (case z_abs => k_is)
    (case z_bool => k_is)
    (case z_int => k_is)
    (case z_isinstance => k_is)
    (case z_len => k_is)
    (case z_min => k_is)
    (case z_range => k_is)
    (case z_reversed => k_is)
    (case z_sorted => k_is)
    (case z_str => k_is)
    (case z_tuple => k_is)
