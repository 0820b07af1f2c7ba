import PyProof.Rows.All
import Wide.All
import OpenK.AllK
import Wide.FinOn
import HandS.ForMost
import HandS.Strs
import HandS.IsInst
import HandS.Codes
import PyProof.Rows.StrMeet
import PyProof.Rows.StrRevDown
import PyProof.ReprRoads
import PyProof.CallFns
import HandS.EndTab
import KE.DataMinMax
import HandS.Iter
import KE.GoesMore
import HandS.SetFor
import HandS.SetBool
import PyProof.StrLawsIn
import PyProof.NeKinds
import PyProof.Rows.ReprOcc
import HandS.TupAny
import PyProof.Rows.StrAscii
import HandS.StrMore
import PyProof.EqKinds
import PyProof.FactsAll.dict_1
import HandS.Style
import HandS.AnyAll
import HandS.GenList
import HandS.Small
import HandS.Rev
import HandS.Flow
import HandS.More
import HandS.Defaults
import PyProof.P3Eq
import HandS.ForExc
import HandS.FStr
import HandS.RaiseMore
import HandS.ExcInit
import KE.DatumOrd
import HandS.Dict
import KE.KDictLaws
import HandS.MakeKwOnly
import HandS.Exc
import HandS.ExcIs
import HandS.ExcField
import HandS.Lambda
import PySem.Challenge.RW_neverwas_k08_retractions_along_paths
/-! Base -/
set_option Elab.async false
set_option linter.all false
set_option maxRecDepth 100000
namespace NV
open PySem PySem.Spec PyProof.Rows L2
def topS (i : Nat) : Stmt := PySem.Challenge.pw_neverwas_k08_retractions_along_paths.main.body.getD i (.Pass ⟨0, 0, 0, 0⟩)
/-- a def of the top: where it stands, and that its name still holds it -/
structure Fn (K : PySem.W.Frag) (mg : Str → Option Value) (nm : Str) (st : Stmt) (ps : List Str) : Type where
  f : Addr
  fd : FuncData
  F : Fun K nm nm st f fd
  m : mg nm = some (.ref f)
  b : Binds K fd ps []
section
variable {X : Cx}
theorem pe_fn {nm : Str} {st : Stmt} {ps : List Str} {sp : Sp} {e : Expr} {es : List Expr} {t : TA} {p pos : Pos} {j k : Nat} (D : Fn X.K X.mg nm st ps) (G : FnOk X.prog X.w X.K X.mg X.base CX0 j D.f D.fd ps sp) (hr : Room k X.A) (ha : PA X (e :: es) t)
    (hk : j ≤ k := by decide) (hg : Gl X nm := by rfl) (hdb : (nm == ("__debug__" : Str)) = false := by decide) (he : starEach (e :: es) X.env = (false, eval e X.env) :: starEach es X.env := by rfl) (hpl : (backTo pos (starEach es X.env)).any (·.1) = false := by rfl) :
    PE X (.Call (.Name nm p) (e :: es) [] pos) (tCall sp [] (fun _ _ _ => False) t) := pe_call G (hr.mono hk) hg D.m D.F.kp D.b .nil pass0 ha hdb he hpl
end
/-! ### the rules whose reading names the written part, with that part as an argument: for the blocks of comprehensions -/
section
variable {X : Cx}
theorem lenE (K : PySem.W.Frag) (h : X.K = K := by rfl) : CallR X (.builtin "len") (fun xs H Q => ∃ p ys, xs = [.ref p] ∧ (SqL K H p ys ∨ SqT K H p ys) ∧ Q (.int ys.length) H) := by
  rw [← h]; exact call_len_seq
theorem lenVE (K : PySem.W.Frag) (h : X.K = K := by rfl) : CallR X (.builtin "len") (fun xs H Q => ∃ x n, xs = [x] ∧ LenV K x H n ∧ Q (.int n) H) := by
  rw [← h]; exact call_len
theorem listE (K : PySem.W.Frag) (h : X.K = K := by rfl) : CallR X (.type "list") (fun xs H Q => ∃ p ys, xs = [.ref p] ∧ (SqL K H p ys ∨ SqT K H p ys) ∧ ∀ l, H l = none → Q (.ref l) (upd H l (.lst ys))) := by
  rw [← h]; exact call_list_of
theorem sortedE (K : PySem.W.Frag) (h : X.K = K := by rfl) : CallR X (.builtin "sorted") (rSortedS K) := by
  rw [← h]; exact cr_sortedS
theorem ixlE (K : PySem.W.Frag) (h : X.K = K := by rfl) : IxR X (rIxL K) := by
  rw [← h]; exact ix_list
theorem ixtE (K : PySem.W.Frag) (h : X.K = K := by rfl) : IxR X (rIxT K) := by
  rw [← h]; exact ix_tup
theorem sllE (K : PySem.W.Frag) (h : X.K = K := by rfl) : SlR X (rSlL K) := by
  rw [← h]; exact sl_list
theorem sltE (K : PySem.W.Frag) (h : X.K = K := by rfl) : SlR X (rSlT K) := by
  rw [← h]; exact sl_tup
theorem inE (K : PySem.W.Frag) (h : X.K = K := by rfl) : OpR X (compareOp .In) (rIn K false) := by
  rw [← h]; exact op_in_seq
theorem notInE (K : PySem.W.Frag) (h : X.K = K := by rfl) : OpR X (compareOp .NotIn) (rIn K true) := by
  rw [← h]; exact op_notIn_seq
theorem eqDE (K : PySem.W.Frag) (hu : X.A.units + 64 < cLine) (h : X.K = K := by rfl) : OpR X (compareOp .Eq) (rEqD K) := by
  rw [← h]; exact op_eqD hu
theorem neDE (K : PySem.W.Frag) (hu : X.A.units + 64 < cLine) (h : X.K = K := by rfl) : OpR X (compareOp .NotEq) (rNeD K) := by
  rw [← h]; exact op_neD hu
theorem bmE (K : PySem.W.Frag) {T name id : String} {r : V → List V → Hp → VK → Prop} {o e : Expr} {es : List Expr} {to : TE} {t : TA} {apos cpos : Pos} (pa : PlainAttrs T) (slot : Slot T name id) (hty : typeOf (.builtin id) = pure (.type "method_descriptor")) (hm : MtR X id r) (ho : PE X o to) (ha : PA X (e :: es) t) (h : X.K = K := by rfl)
    (hbase : attributeBase o name X.env (eval o X.env) = eval o X.env := by rfl)
    (hfew : ((backTo cpos (starEach (e :: es) X.env)).all (fun x => !x.1) && (backToKw cpos (keywordEach [] X.env)).all (fun x => x.1.isSome)
      && decide ((e :: es).length + ([] : List Keyword).length + (if ([] : List Keyword).isEmpty then 0 else 1) < 30)) = true := by rfl)
    (hline : (apos.endLine == cpos.line) = true := by rfl) (hs : starEach (e :: es) X.env = (false, eval e X.env) :: starEach es X.env := by rfl) (hplain : (backTo cpos (starEach es X.env)).any (·.1) = false := by rfl) :
    PE X (.Call (.Attribute o name apos) (e :: es) [] cpos) (tBM K T r to t) := by
  rw [← h]; exact pe_bm pa slot hty hm ho ha hbase hfew hline hs hplain
theorem piListE (K : PySem.W.Frag) {tg l : Expr} {tl : TE} (hl : PE X l tl) (h : X.K = K := by rfl) : PI X tg l (iList K tl) := by
  rw [← h]; exact pi_list hl
theorem piTupE (K : PySem.W.Frag) {tg l : Expr} {tl : TE} (hl : PE X l tl) (h : X.K = K := by rfl) : PI X tg l (iTup K tl) := by
  rw [← h]; exact pi_tup hl
end
/-! ### what is kept -/
/-- all but ex stands as it stood -/
def Kp (ex : List Addr) (H H' : Hp) : Prop := ∀ b o, b ∉ ex → H b = some o → H' b = some o
theorem Kp.refl {ex : List Addr} {H : Hp} : Kp ex H H := fun _ _ _ e => e
theorem Kp.trans {ex : List Addr} {H H1 H2 : Hp} (a : Kp ex H H1) (b : Kp ex H1 H2) : Kp ex H H2 := fun c o h e => b c o h (a c o h e)
theorem Kp.of {ex : List Addr} {H H' : Hp} (a : Same H H') : Kp ex H H' := fun b o _ e => a b o e
theorem Kp.laid {ex : List Addr} {H : Hp} {p : Addr} {o : HO} (h : H p = none) : Kp ex H (upd H p o) := fun b u _ e => by rw [upd_ne (ne_of_none e h)]; exact e
theorem Kp.put {ex : List Addr} {H : Hp} {p : Addr} {o : HO} (h : p ∈ ex) : Kp ex H (upd H p o) := fun b u hb e => by rw [upd_ne (fun q => hb (by rw [q]; exact h))]; exact e
theorem Kp.mono {ex ex' : List Addr} {H H' : Hp} (a : Kp ex H H') (h : ∀ b ∈ ex, b ∈ ex') : Kp ex' H H' := fun b o hb e => a b o (fun z => hb (h b z)) e
/-! ### the law's draws -/
/-- the draw's dict, its list of great numbers, its list of all -/
structure Dr where
  d : Addr
  l : Addr
  it : Addr
abbrev Dr.ex (D : Dr) : List Addr := [D.d, D.l]
abbrev Dr.all (D : Dr) : List Addr := [D.d, D.l, D.it]
theorem Dr.sub {D : Dr} {p : Addr} (h : p ∉ D.all) : p ∉ D.ex := fun z => h (by
  rcases List.mem_cons.mp z with z | z
  · rw [z]; exact List.mem_cons_self
  · rw [List.mem_singleton.mp z]; exact List.mem_cons_of_mem _ List.mem_cons_self)
abbrev kLarge : Key := Sum.inr "large"
abbrev kItems : Key := Sum.inr "items"
abbrev kLeft : Key := Sum.inr "left"
abbrev kTurn : Key := Sum.inr "turn"
def drV (D : Dr) (left turn : Int) : List (Key × V) := [(kLarge, .ref D.l), (kItems, .ref D.it), (kLeft, .int left), (kTurn, .int turn)]
/-- n more draws are allowed -/
structure DrAt (D : Dr) (n : Nat) (H : Hp) : Prop where
  ne : D.it ≠ D.l
  at_ : ∃ (large items : List Int) (left turn : Int), H D.d = some (.dK (drV D left turn)) ∧ H D.l = some (.lst (large.map V.int)) ∧ H D.it = some (.lst (items.map V.int)) ∧
    (0 ≤ left ∧ 0 ≤ turn ∧ turn + n ≤ 1000000000) ∧ (∀ x ∈ large, 0 ≤ x) ∧ ∀ x ∈ items, 0 ≤ x
theorem DrAt.less {D : Dr} {n m : Nat} {H : Hp} (h : DrAt D n H) (hm : m ≤ n) : DrAt D m H := by
  obtain ⟨h0, large, items, left, turn, h1, h2, h3, ⟨h4, h5, h6⟩, h7, h8⟩ := h
  exact ⟨h0, large, items, left, turn, h1, h2, h3, ⟨h4, h5, by omega⟩, h7, h8⟩
theorem DrAt.keep {D : Dr} {n : Nat} {H H' : Hp} (h : DrAt D n H) (k : Kp [] H H') : DrAt D n H' := by
  obtain ⟨h0, large, items, left, turn, h1, h2, h3, h4⟩ := h
  exact ⟨h0, large, items, left, turn, k _ _ (by simp) h1, k _ _ (by simp) h2, k _ _ (by simp) h3, h4⟩
theorem DrAt.upd {D : Dr} {n : Nat} {H : Hp} {p : Addr} {o : HO} (h : DrAt D n H) (hp : p ∉ D.all) : DrAt D n (upd H p o) := by
  obtain ⟨h0, large, items, left, turn, h1, h2, h3, h4⟩ := h
  have n1 : D.d ≠ p := fun z => hp (by rw [← z]; exact List.mem_cons_self)
  have n2 : D.l ≠ p := fun z => hp (by rw [← z]; exact List.mem_cons_of_mem _ List.mem_cons_self)
  have n3 : D.it ≠ p := fun z => hp (by rw [← z]; exact List.mem_cons_of_mem _ (List.mem_cons_of_mem _ List.mem_cons_self))
  exact ⟨h0, large, items, left, turn, by rw [upd_ne n1]; exact h1, by rw [upd_ne n2]; exact h2, by rw [upd_ne n3]; exact h3, h4⟩
theorem DrAt.fresh {D : Dr} {n : Nat} {H : Hp} (h : DrAt D n H) {p : Addr} (hp : H p = none) : p ∉ D.all := by
  obtain ⟨_, large, items, left, turn, h1, h2, h3, _⟩ := h
  intro z
  rcases List.mem_cons.mp z with z | z
  · rw [z, h1] at hp; cases hp
  · rcases List.mem_cons.mp z with z | z
    · rw [z, h2] at hp; cases hp
    · rw [List.mem_singleton.mp z, h3] at hp; cases hp
end NV
/-! D1 -/
set_option Elab.async false
set_option linter.all false
set_option maxRecDepth 100000
set_option maxHeartbeats 400000
namespace NV
open PySem PySem.Spec PyProof.Rows L2
theorem ne_lk : ¬ (kLarge = kItems) ∧ ¬ (kLarge = kLeft) ∧ ¬ (kLarge = kTurn) ∧ ¬ (kItems = kLeft) ∧ ¬ (kItems = kTurn) ∧ ¬ (kLeft = kTurn) := by decide +kernel
theorem dr_large {D : Dr} {l t : Int} : valV (drV D l t) kLarge = some (.ref D.l) := valV_pos rfl
theorem dr_items {D : Dr} {l t : Int} : valV (drV D l t) kItems = some (.ref D.it) := (valV_neg ne_lk.1).trans (valV_pos rfl)
theorem dr_left {D : Dr} {l t : Int} : valV (drV D l t) kLeft = some (.int l) := (valV_neg ne_lk.2.1).trans ((valV_neg ne_lk.2.2.2.1).trans (valV_pos rfl))
theorem dr_turn {D : Dr} {l t : Int} : valV (drV D l t) kTurn = some (.int t) := (valV_neg ne_lk.2.2.1).trans ((valV_neg ne_lk.2.2.2.2.1).trans ((valV_neg ne_lk.2.2.2.2.2).trans (valV_pos rfl)))
theorem dr_putLeft {D : Dr} {l t z : Int} : putK (drV D l t) kLeft (.int z) = drV D z t := by
  obtain ⟨h1, h2, h3, h4, h5, h6⟩ := ne_lk
  unfold putK drV
  rw [if_pos (by simp [h2, h4])]
  simp [h2, h4, Ne.symm h6]
theorem dr_putTurn {D : Dr} {l t z : Int} : putK (drV D l t) kTurn (.int z) = drV D l z := by
  obtain ⟨h1, h2, h3, h4, h5, h6⟩ := ne_lk
  unfold putK drV
  rw [if_pos (by simp [h3, h5, h6])]
  simp [h3, h5, h6]
theorem DrAt.nd {D : Dr} {n : Nat} {H : Hp} (h : DrAt D n H) : D.d ≠ D.l ∧ D.d ≠ D.it := by
  obtain ⟨h0, large, items, left, turn, h1, h2, h3, h4⟩ := h
  exact ⟨ne_of h1 h2 (by intro z; cases z), ne_of h1 h3 (by intro z; cases z)⟩

theorem fmod_in {i j : Int} (h : 0 < j) : 0 ≤ i.fmod j ∧ i.fmod j < j := by
  rw [Int.fmod_eq_emod_of_nonneg i (Int.le_of_lt h)]
  exact ⟨Int.emod_nonneg i (by omega), Int.emod_lt_of_pos i h⟩
theorem fdiv_in {i j : Int} (h0 : 0 ≤ i) (h : 0 < j) : 0 ≤ i.fdiv j ∧ i.fdiv j ≤ i := by
  rw [Int.fdiv_eq_ediv_of_nonneg i (Int.le_of_lt h)]
  exact ⟨Int.ediv_nonneg h0 (Int.le_of_lt h), Int.ediv_le_self j h0⟩

abbrev sLawMixed : Stmt := topS 43
theorem scLawMixed : FnScope ["draw", "number", "prime", "part", "item"] ["draw"] (defScope sLawMixed) := ⟨rfl, rfl, rfl, by decide +kernel, rfl, by decide +kernel, by decide +kernel⟩
def spMixed : Sp := fun vs H Q _ => ∃ (D : Dr) (n : Nat), vs = [.ref D.d] ∧ DrAt D (n + 1) H ∧ ∀ z H', 0 ≤ z → Kp [D.d] H H' → DrAt D n H' → Q (.int z) H'
section
variable {P : Program} {w : World} {K : PySem.W.Frag} {mg : Str → Option Value} {base : Heap}
theorem ok_mixed (D : Fn K mg "_law_mixed" sLawMixed ["draw"]) : FnOk P w K mg base CX0 1 D.f D.fd ["draw"] spMixed := by
  refine D.F.ok scLawMixed (fun vs H Q E h => ?_) (fun cdv A outer s H vs Q E hr h => ?_)
  · obtain ⟨D, n, rfl, _⟩ := h
    rfl
  obtain ⟨D, n, rfl, hD, q⟩ := h
  have hu := hu_of hr
  obtain ⟨nd1, nd2⟩ := hD.nd
  obtain ⟨ne, large, items, left, turn, h1, h2, h3, ⟨h4, h5, h6⟩, h7, h8⟩ := hD
  refine ⟨_, pss_cons (ps_dput hu (pv 0) pe_str (pe_op op_add (pe_dget hu (pv 0) pe_str (fun _ _ => rfl)) pe_int) rfl)
      (pss_cons (ps_set (i := 1) scLawMixed.nd rfl (.inl rfl) pe_int)
      (pss_cons (ps_for PassesOwn.never rfl (pi_list (pe_lst (pa_cons pe_int (pa_cons pe_int (pa_cons pe_int (pa_cons pe_int pa_nil)))))) (pg_name (i := 2) scLawMixed.nd rfl (.inl rfl))
      (pss_cons (ps_set (i := 3) scLawMixed.nd rfl (.inl rfl) (pe_op op_add (pe_op op_mul pe_int (pe_dget hu (pv 0) pe_str (fun _ _ => rfl))) (pe_op op_fdivN (pv 2) pe_int)))
      (pss_cons (ps_for PassesOwn.never rfl (pi_list (pe_dget hu (pv 0) pe_str (fun _ _ => rfl))) (pg_name (i := 4) scLawMixed.nd rfl (.inl rfl))
      (pss_one (ps_set (i := 3) scLawMixed.nd rfl (.inl rfl) (pe_op op_modN (pe_op op_add (pe_op op_mul (pv 3) pe_int) (pv 4)) (pv 2)))))
      (pss_one (ps_set (i := 1) scLawMixed.nd rfl (.inl rfl) (pe_op op_add (pe_op op_mul (pv 1) pe_int) (pe_op op_modN (pe_op op_pow (pv 3) pe_int) (pv 2))))))))
      (pss_one (ps_ret (pv 1))))), ?_⟩
  -- draw['turn'] = draw['turn'] + 1
  refine ⟨_, rfl, D.d, .int turn, rfl, dr_turn ▸ DGet.k (k := kTurn) h1, turn, 1, rfl, rfl, _, rfl, D.d, _, rfl, DPut.k (k := kTurn) h1 (by show 4 < sizeLine; decide), ?_⟩
  rw [dr_putTurn]
  have g1 : Kp [D.d] H (upd H D.d (.dK (drV D left (turn + 1)))) := Kp.put (by simp)
  have d1 : DrAt D n (upd H D.d (.dK (drV D left (turn + 1)))) := ⟨ne, large, items, left, turn + 1, upd_same, by rw [upd_ne (Ne.symm nd1)]; exact h2, by rw [upd_ne (Ne.symm nd2)]; exact h3, ⟨h4, by omega, by omega⟩, h7, h8⟩
  generalize upd H D.d (.dK (drV D left (turn + 1))) = H1 at g1 d1
  -- number = 0; the four primes
  refine ⟨by show 4 ≤ sizeLine; decide, fun p hp => ?_⟩
  have g2 : Kp [D.d] H (upd H1 p (.lst [V.int 2147483629, V.int 2147483587, V.int 2147483579, V.int 2147483563])) := g1.trans (Kp.laid hp)
  have d2 : DrAt D n (upd H1 p (.lst [V.int 2147483629, V.int 2147483587, V.int 2147483579, V.int 2147483563])) := d1.keep (Kp.laid hp)
  have e2 : upd H1 p (.lst [V.int 2147483629, V.int 2147483587, V.int 2147483579, V.int 2147483563]) p = some (.lst [V.int 2147483629, V.int 2147483587, V.int 2147483579, V.int 2147483563]) := upd_same
  generalize upd H1 p (.lst [V.int 2147483629, V.int 2147483587, V.int 2147483579, V.int 2147483563]) = H2 at g2 d2 e2 ⊢
  obtain ⟨_, large', items', left', turn', k1, k2, k3, ⟨k4, k5, k6⟩, k7, k8⟩ := id d2
  refine ⟨p, rfl, ⟨_, SqL.of e2⟩, for_list (K := K) (a := p) (xs := [V.int 2147483629, V.int 2147483587, V.int 2147483579, V.int 2147483563]) (fun i σ H' => ∃ (num : Int) (v2 v3 v4 : Option V), σ = [some (.ref D.d), some (.int num), v2, v3, v4] ∧ 0 ≤ num ∧ H' = H2)
    ⟨0, none, none, none, rfl, Int.le_refl 0, rfl⟩ (fun i σ H' _ ⟨_, _, _, _, _, _, e⟩ => by rw [e]; exact SqL.of e2) ?_ ?_⟩
  · rintro i y σ H' hi ⟨num, v2, v3, v4, rfl, hn, rfl⟩
    obtain ⟨pr, rfl, hp0, hp1⟩ : ∃ pr : Int, y = .int pr ∧ 1000 < pr ∧ pr < 2147483648 := by
      match i, hi with
      | 0, h => exact ⟨_, (Option.some.inj h).symm, by decide, by decide⟩
      | 1, h => exact ⟨_, (Option.some.inj h).symm, by decide, by decide⟩
      | 2, h => exact ⟨_, (Option.some.inj h).symm, by decide, by decide⟩
      | 3, h => exact ⟨_, (Option.some.inj h).symm, by decide, by decide⟩
      | j + 4, h => simp at h
    refine ⟨_, rfl, D.d, .int turn', rfl, dr_turn ▸ DGet.k (k := kTurn) k1, 92821, turn', rfl, rfl, .inl (by decide), _, rfl, pr, 13, rfl, rfl, ⟨by decide, by decide⟩, _, _, rfl, rfl, ?_⟩
    -- for item in draw['items']
    refine ⟨_, rfl, D.d, _, rfl, dr_items ▸ DGet.k (k := kItems) k1, D.it, rfl, ⟨_, SqL.of k3⟩, for_list (K := K) (a := D.it) (xs := items'.map V.int) (fun i σ H2' => ∃ (part : Int) (v4 : Option V), σ = [some (.ref D.d), some (.int num), some (.int pr), some (.int part), v4] ∧ 0 ≤ part ∧ part < 18446744073709551616 ∧ H2' = H')
      ⟨_, v4, rfl, ?_, ?_, rfl⟩ (fun i σ H2' _ ⟨_, _, _, _, _, e⟩ => by rw [e]; exact SqL.of k3) ?_ ?_⟩
    · have := (fdiv_in (i := pr) (j := 13) (by omega) (by decide)).1
      omega
    · have := (fdiv_in (i := pr) (j := 13) (by omega) (by decide)).2
      omega
    · rintro j y σ H2' hj ⟨part, v4', rfl, hp2, hp3, rfl⟩
      obtain ⟨it, rfl⟩ : ∃ it : Int, y = .int it := by
        rw [List.getElem?_map] at hj
        cases e : items'[j]? with
        | none => rw [e] at hj; cases hj
        | some z => rw [e] at hj; exact ⟨z, (Option.some.inj hj).symm⟩
      obtain ⟨m1, m2⟩ := fmod_in (i := part * 48271 + it) (j := pr) (by omega)
      refine ⟨_, rfl, part, 48271, rfl, rfl, .inr (by decide), _, rfl, _, it, rfl, rfl, _, rfl, _, pr, rfl, rfl, (by omega), _, some (.int it), rfl, m1, by omega, rfl⟩
    · rintro σ H2' ⟨part, v4', rfl, hp2, hp3, rfl⟩
      obtain ⟨m1, m2⟩ := fmod_in (i := part ^ (5 : Int).toNat) (j := pr) (by omega)
      refine ⟨_, rfl, num, 2147483647, rfl, rfl, .inr (by decide), _, rfl, part, 5, rfl, rfl, ⟨by decide, by decide, by omega⟩, _, rfl, _, pr, rfl, rfl, (by omega), _, _, rfl, rfl, _, _, _, _, rfl, ?_, rfl⟩
      have : 0 ≤ num * 2147483647 := Int.mul_nonneg hn (by decide)
      omega
  · rintro σ H' ⟨num, v2, v3, v4, rfl, hn, rfl⟩
    exact ⟨_, rfl, q num H' hn g2 d2⟩
end
end NV
/-! D2 -/
set_option Elab.async false
set_option linter.all false
set_option maxRecDepth 100000
set_option maxHeartbeats 400000
namespace NV
open PySem PySem.Spec PyProof.Rows L2
open C8 (pss_cut)
theorem dp_ints {K : PySem.W.Frag} {H : Hp} : ∀ ns : List Int, DpAll K H (ns.map V.int) (ns.map PyData.int)
  | [] => .nil
  | n :: r => .cons (.int n) (dp_ints r)
theorem ints_lay : ∀ ns : List Int, PyData.canLayAll0 (ns.map PyData.int) = true
  | [] => rfl
  | n :: r => ints_lay r
theorem ints_depth : ∀ ns : List Int, PyData.depthAll (ns.map PyData.int) = 0
  | [] => rfl
  | n :: r => by show max 0 (PyData.depthAll (r.map PyData.int)) = 0; rw [ints_depth r]; rfl
theorem ints_shaped (ns : List Int) : SeqAt.shaped (.list (ns.map .int)) = true := by
  unfold SeqAt.shaped
  rw [show PyData.canLay0 (.list (ns.map .int)) = true from ints_lay ns, show PyData.depth (.list (ns.map .int)) = 0 + 1 from congrArg (· + 1) (ints_depth ns)]
  rfl
theorem nil_shaped : SeqAt.shaped (.list []) = true := rfl
theorem eqv_nil : ∀ ds : List PyData, PyData.eqv (.list ds) (.list []) = ds.isEmpty
  | [] => rfl
  | _ :: _ => rfl

theorem dg_large {D : Dr} {l t : Int} {H : Hp} (h : H D.d = some (.dK (drV D l t))) : DGet H D.d (.str "large") (some (.ref D.l)) := dr_large ▸ DGet.k (k := kLarge) h
theorem sq_at {i : Int} {n : Nat} (h0 : 0 ≤ i) (h : i < n) : seqIndex? i n = some i.toNat := by
  unfold seqIndex?
  have e : (if i < 0 then i + (n : Int) else i) = i := if_neg (by omega)
  simp only [e]
  rw [if_pos (by simp [h0, h])]
abbrev sLawTake : Stmt := topS 44
theorem scLawTake : FnScope ["draw", "size", "digit"] ["draw", "size"] (defScope sLawTake) := ⟨rfl, rfl, rfl, by decide +kernel, rfl, by decide +kernel, by decide +kernel⟩
def spTake : Sp := fun vs H Q _ => ∃ (D : Dr) (n : Nat) (size : Int), vs = [.ref D.d, .int size] ∧ 0 < size ∧ size < 1073741824 ∧ DrAt D (n + 1) H ∧ ∀ i H', 0 ≤ i → i < size → Kp D.ex H H' → DrAt D n H' → Q (.int i) H'
section
variable {P : Program} {w : World} {K : PySem.W.Frag} {mg : Str → Option Value} {base : Heap}
theorem ok_take (D : Fn K mg "_law_take" sLawTake ["draw", "size"]) (M : Fn K mg "_law_mixed" sLawMixed ["draw"]) : FnOk P w K mg base CX0 2 D.f D.fd ["draw", "size"] spTake := by
  have GM : FnOk P w K mg base CX0 1 M.f M.fd ["draw"] spMixed := ok_mixed M
  refine D.F.ok scLawTake (fun vs H Q E h => ?_) (fun cdv A outer s H vs Q E hr h => ?_)
  · obtain ⟨D, n, size, rfl, _⟩ := h
    rfl
  obtain ⟨D, n, size, rfl, z0, z1, hD, q⟩ := h
  have hu := hu_of hr
  refine ⟨_, pss_cut (ps_if (pt_cmpR op_eq (pe_dget hu (pv 0) pe_str (fun _ _ => rfl)) pe_int (nomark _))
      (pss_one (ps_dput hu (pv 0) pe_str (pe_ifExp (pt_cmpR (op_neD hr.units) (pe_dget hu (pv 0) pe_str (fun _ _ => rfl)) (pe_lst pa_nil) (nomark _)) (pe_bm PySem.F.plainAttrs_list PySem.F.slot_list_pop PySem.F.type_list_pop mt_popAt (pe_dget hu (pv 0) pe_str (fun _ _ => rfl)) (pa_cons pe_int pa_nil)) (pe_fn M GM hr (pa_cons (pv 0) pa_nil))) rfl))
      pss_nil)
      (pss_cons (ps_set (i := 2) scLawTake.nd rfl (.inl rfl) (pe_op op_modN (pe_dget hu (pv 0) pe_str (fun _ _ => rfl)) (pv 1)))
      (pss_cons (ps_dput hu (pv 0) pe_str (pe_op op_fdivN (pe_dget hu (pv 0) pe_str (fun _ _ => rfl)) (pv 1)) rfl)
      (pss_one (ps_ret (pv 2))))), ?_⟩
  obtain ⟨nd1, nd2⟩ := hD.nd
  have hd' : D.d ∈ D.ex := List.mem_cons_self
  have hl' : D.l ∈ D.ex := List.mem_cons_of_mem _ List.mem_cons_self
  refine ⟨fun σ H1 => σ = [some (.ref D.d), some (.int size), none] ∧ Kp D.ex H H1 ∧ DrAt D n H1, ?_, ?_⟩
  · have hD' := id hD
    obtain ⟨ne, large, items, left, turn, h1, h2, h3, ⟨h4, h5, h6⟩, h7, h8⟩ := hD'
    refine ⟨_, rfl, D.d, .int left, rfl, dr_left ▸ DGet.k (k := kLeft) h1, rfl, _, rfl, ite2 (fun c => ?_) (fun c => ?_)⟩
    · -- draw['large'] != []
      refine ⟨_, rfl, D.d, _, rfl, dr_large ▸ DGet.k (k := kLarge) h1, Nat.zero_le _, fun p hp => ?_⟩
      have k1 : Kp [] H (upd H p (.lst [])) := Kp.laid hp
      have e1 : upd H p (.lst []) p = some (.lst []) := upd_same
      have hD1 := hD.keep k1
      generalize upd H p (.lst []) = H1 at k1 e1 hD1 ⊢
      have g1 : Kp D.ex H H1 := k1.mono (by simp)
      refine ⟨_, _, .lst (SqL.of (k1 _ _ (by simp) h2)) (dp_ints large), .lst (SqL.of e1) .nil, ints_shaped large, nil_shaped, _, rfl, ite2 (fun c2 => ?_) (fun c2 => ?_)⟩
      · -- pop(0)
        have hne : large ≠ [] := fun z => by subst z; simp [PyData.eqv, PyData.eqvAll] at c2
        obtain ⟨x, r, rfl⟩ : ∃ x r, large = x :: r := by
          cases large with
          | nil => exact absurd rfl hne
          | cons x r => exact ⟨x, r, rfl⟩
        have h1' := k1 _ _ (by simp) h1
        have h2' := k1 _ _ (by simp) h2
        have h3' := k1 _ _ (by simp) h3
        refine ⟨_, rfl, D.d, _, rfl, dg_large h1', .inl ⟨rfl, _, SqL.of h2'⟩, D.l, _, 0, 0, .int x, rfl, rfl, h2', by decide, by decide, sq_at (Int.le_refl 0) (by simp), rfl, ?_⟩
        have h1'' : upd H1 D.l (.lst (((x :: r).map V.int).eraseIdx 0)) D.d = some (.dK (drV D left turn)) := by rw [upd_ne nd1]; exact h1'
        refine ⟨_, rfl, D.d, _, rfl, DPut.k (k := kLeft) h1'' (by show 4 < sizeLine; decide), ?_⟩
        rw [dr_putLeft]
        refine ⟨rfl, g1.trans ((Kp.put hl').trans (Kp.put hd')), ne, r, items, x, turn, upd_same, ?_, ?_, ⟨h7 x List.mem_cons_self, h5, by omega⟩, fun y hy => h7 y (List.mem_cons_of_mem _ hy), h8⟩
        · rw [upd_ne (Ne.symm nd1), upd_same]
          rfl
        · rw [upd_ne (Ne.symm nd2), upd_ne ne]
          exact h3'
      · -- a mixed number
        refine ⟨_, rfl, D, n, rfl, hD1, fun z H2 hz k2 hD2 => ?_⟩
        have hD2' := id hD2
        obtain ⟨_, large2, items2, left2, turn2, j1, j2, j3, ⟨j4, j5, j6⟩, j7, j8⟩ := hD2'
        refine ⟨_, rfl, D.d, _, rfl, DPut.k (k := kLeft) j1 (by show 4 < sizeLine; decide), ?_⟩
        rw [dr_putLeft]
        refine ⟨rfl, g1.trans ((k2.mono (by simp)).trans (Kp.put hd')), ne, large2, items2, z, turn2, upd_same, by rw [upd_ne (Ne.symm nd1)]; exact j2, by rw [upd_ne (Ne.symm nd2)]; exact j3, ⟨hz, j5, by omega⟩, j7, j8⟩
    · exact ⟨rfl, Kp.refl, hD.less (Nat.le_succ _)⟩
  · rintro σ H1 ⟨rfl, g1, hD1⟩
    have hD' := id hD1
    obtain ⟨ne, large, items, left, turn, h1, h2, h3, ⟨h4, h5, h6⟩, h7, h8⟩ := hD'
    obtain ⟨m1, m2⟩ := fmod_in (i := left) (j := size) z0
    obtain ⟨f1, f2⟩ := fdiv_in (i := left) (j := size) h4 z0
    refine ⟨_, rfl, D.d, _, rfl, dr_left ▸ DGet.k (k := kLeft) h1, _, rfl, left, size, rfl, rfl, (by omega), ?_⟩
    refine ⟨_, rfl, D.d, _, rfl, dr_left ▸ DGet.k (k := kLeft) h1, _, rfl, left, size, rfl, rfl, ⟨(by omega), (by omega)⟩, _, rfl, D.d, _, rfl, DPut.k (k := kLeft) h1 (by show 4 < sizeLine; decide), ?_⟩
    rw [dr_putLeft]
    exact ⟨_, rfl, q _ _ m1 m2 (g1.trans (Kp.put hd')) ⟨ne, large, items, _, turn, upd_same, by rw [upd_ne (Ne.symm nd1)]; exact h2, by rw [upd_ne (Ne.symm nd2)]; exact h3, ⟨f1, h5, h6⟩, h7, h8⟩⟩
end
end NV
/-! D3 -/
set_option Elab.async false
set_option linter.all false
set_option maxRecDepth 100000
set_option maxHeartbeats 400000
namespace NV
open PySem PySem.Spec PyProof.Rows L2
open C8 (pss_cut)
theorem Kp.seqL {K : PySem.W.Frag} {ex : List Addr} {H H' : Hp} {a : Addr} {xs : List V} (e : Kp ex H H') (ha : a ∉ ex) (h : SqL K H a xs) : SqL K H' a xs := by
  rcases h with (h | ⟨o, h⟩) | h
  · exact .inl (.inl (e _ _ ha h))
  · exact .inl (.inr ⟨o, e _ _ ha h⟩)
  · exact .inr h
theorem Kp.seqT {K : PySem.W.Frag} {ex : List Addr} {H H' : Hp} {a : Addr} {xs : List V} (e : Kp ex H H') (ha : a ∉ ex) (h : SqT K H a xs) : SqT K H' a xs := by
  rcases h with (h | ⟨o, h⟩) | h
  · exact .inl (.inl (e _ _ ha h))
  · exact .inl (.inr ⟨o, e _ _ ha h⟩)
  · exact .inr h
abbrev sLawPick : Stmt := topS 45
theorem scLawPick : FnScope ["draw", "some"] ["draw", "some"] (defScope sLawPick) := ⟨rfl, rfl, rfl, by decide +kernel, rfl, by decide +kernel, by decide +kernel⟩
def spPick (K : PySem.W.Frag) : Sp := fun vs H Q _ => ∃ (D : Dr) (n : Nat) (a : Addr) (xs : List V), vs = [.ref D.d, .ref a] ∧ SqL K H a xs ∧ 0 < xs.length ∧ xs.length < 1073741824 ∧ a ∉ D.ex ∧ DrAt D (n + 1) H ∧
  ∀ (i : Nat) (v : V) (H' : Hp), xs[i]? = some v → Kp D.ex H H' → DrAt D n H' → Q v H'
section
variable {P : Program} {w : World} {K : PySem.W.Frag} {mg : Str → Option Value} {base : Heap}
theorem ok_pick (D : Fn K mg "_law_pick" sLawPick ["draw", "some"]) (T : Fn K mg "_law_take" sLawTake ["draw", "size"]) (b_len : mg "len" = none) (G : FnOk P w K mg base CX0 2 T.f T.fd ["draw", "size"] spTake) : FnOk P w K mg base CX0 3 D.f D.fd ["draw", "some"] (spPick K) := by
  refine D.F.ok scLawPick (fun vs H Q E h => ?_) (fun cdv A outer s H vs Q E hr h => ?_)
  · obtain ⟨D, n, a, xs, rfl, _⟩ := h
    rfl
  obtain ⟨D, n, a, xs, rfl, hS, l0, l1, ha, hD, q⟩ := h
  refine ⟨_, pss_one (ps_ret (pe_ix ix_list (pv 1) (pe_fn T G hr (pa_cons (pv 0) (pa_cons (pe_callB call_len_seq (by rfl) b_len (by decide +kernel) (pa_cons (pv 1) pa_nil)) pa_nil))) (fun _ _ => rfl))), ?_⟩
  refine ⟨_, rfl, _, rfl, _, rfl, a, xs, rfl, .inl hS, D, n, _, rfl, (by omega), (by omega), hD, fun i H' h0 h1 k hD' => ?_⟩
  have hlt : i.toNat < xs.length := by omega
  have ei : ((i.toNat : Nat) : Int) = i := by omega
  have g : atI xs ((i.toNat : Nat) : Int) = some xs[i.toNat] := atI_nat (List.getElem?_eq_getElem hlt)
  rw [ei] at g
  exact ⟨a, xs, i, xs[i.toNat], rfl, rfl, k.seqL ha hS, g, q i.toNat _ H' (List.getElem?_eq_getElem hlt) k hD'⟩
end
end NV
/-! Ord -/
set_option linter.all false
/-! texts in order -/
namespace NV
open PySem PySem.Spec PyProof.Rows L2
def ltS (a b : Str) : Prop := a.cps.toList < b.cps.toList
theorem ltS_iff {a b : Str} : ltCps a.cps.toList b.cps.toList = true ↔ ltS a b := by rw [ltCps_eq, decide_eq_true_eq]; exact Iff.rfl
theorem ltS_irrefl (a : Str) : ¬ ltS a a := List.lt_irrefl _
theorem ltS_trans {a b c : Str} (h : ltS a b) (h' : ltS b c) : ltS a c := List.lt_trans h h'
theorem ltS_total {a b : Str} (h : ¬ ltS a b) (h' : ¬ ltS b a) : a = b := ext_toList (List.le_antisymm (List.not_lt.mp h') (List.not_lt.mp h))
instance (a b : Str) : Decidable (ltS a b) := inferInstanceAs (Decidable (a.cps.toList < b.cps.toList))
abbrev Asc (l : List Str) : Prop := l.Pairwise ltS
theorem rising_pw : ∀ (l : List Str) (p : Str), risingS p l = true → (∀ x ∈ l, ¬ ltS x p) ∧ l.Pairwise (fun a b => ¬ ltS b a)
  | [], _, _ => ⟨fun x hx => by simp at hx, .nil⟩
  | y :: r, p, h => by
    have h' : (!ltCps y.cps.toList p.cps.toList && risingS y r) = true := h
    rw [Bool.and_eq_true, Bool.not_eq_true'] at h'
    have h0 : ¬ ltS y p := fun q => by rw [ltS_iff.mpr q] at h'; exact Bool.noConfusion h'.1
    obtain ⟨h1, h2⟩ := rising_pw r y h'.2
    refine ⟨fun x hx => ?_, List.pairwise_cons.mpr ⟨h1, h2⟩⟩
    rcases List.mem_cons.mp hx with e | hx
    · rw [e]; exact h0
    · intro q
      have q1 := h1 x hx
      by_cases q2 : ltS p x
      · exact ltS_irrefl _ (ltS_trans q q2)
      · have : ltS y x ∨ y = x := by
          by_cases z : ltS y x
          · exact .inl z
          · exact .inr (ltS_total z q1)
        rcases this with z | z
        · exact h0 (ltS_trans z q)
        · rw [← z] at q; exact h0 q
theorem sorted_asc {l : List Str} (h : sortedS l = true) (d : l.Nodup) : Asc l := by
  have pw : l.Pairwise (fun a b => ¬ ltS b a) := by
    cases l with
    | nil => exact .nil
    | cons x r =>
      obtain ⟨h1, h2⟩ := rising_pw r x h
      exact List.pairwise_cons.mpr ⟨h1, h2⟩
  exact (pw.and d).imp fun {a b} ⟨h1, h2⟩ => Classical.byContradiction fun h3 => h2 (ltS_total h3 h1)
theorem Asc.nodup {l : List Str} (h : Asc l) : l.Nodup := h.imp fun {a b} q e => by rw [e] at q; exact ltS_irrefl _ q
/-- two rising lists of the same members are one -/
theorem asc_same : ∀ {l m : List Str}, Asc l → Asc m → (∀ x, x ∈ l ↔ x ∈ m) → l = m
  | [], [], _, _, _ => rfl
  | [], y :: r, _, _, h => absurd ((h y).mpr List.mem_cons_self) (by simp)
  | x :: l, [], _, _, h => absurd ((h x).mp List.mem_cons_self) (by simp)
  | x :: l, y :: m, hl, hm, h => by
    obtain ⟨l1, l2⟩ := List.pairwise_cons.mp hl
    obtain ⟨m1, m2⟩ := List.pairwise_cons.mp hm
    have e : x = y := by
      rcases List.mem_cons.mp ((h x).mp List.mem_cons_self) with q | q
      · exact q
      · rcases List.mem_cons.mp ((h y).mpr List.mem_cons_self) with z | z
        · exact z.symm
        · exact absurd (ltS_trans (l1 y z) (m1 x q)) (ltS_irrefl _)
    subst e
    rw [asc_same l2 m2 fun z => ⟨fun q => ?_, fun q => ?_⟩]
    · rcases List.mem_cons.mp ((h z).mp (List.mem_cons_of_mem _ q)) with w | w
      · rw [w] at q; exact absurd (l1 x q) (ltS_irrefl _)
      · exact w
    · rcases List.mem_cons.mp ((h z).mpr (List.mem_cons_of_mem _ q)) with w | w
      · rw [w] at q; exact absurd (m1 x q) (ltS_irrefl _)
      · exact w
end NV
/-! D4 -/
set_option Elab.async false
set_option linter.all false
set_option maxRecDepth 100000
set_option maxHeartbeats 400000
namespace NV
open PySem PySem.Spec PyProof.Rows L2
open C8 (pss_cut)
theorem Kp.drop {p : Addr} {ex : List Addr} {H H' : Hp} (k : Kp (p :: ex) H H') (hp : H p = none) : Kp ex H H' := fun b o hb e => k b o (fun z => by
  rcases List.mem_cons.mp z with z | z
  · rw [z, hp] at e; cases e
  · exact hb z) e
theorem wipe_again {σ : L2.St} {i : Nat} {v : Option V} : wipe ((wipe σ [i]).set i v) [i] = wipe σ [i] := by
  show ((σ.set i none).set i v).set i none = σ.set i none
  rw [List.set_set, List.set_set]
theorem erase_str : ∀ (l : List Str) (j : Nat), (l.map V.str).eraseIdx j = (l.eraseIdx j).map V.str
  | [], _ => rfl
  | _ :: _, 0 => rfl
  | _ :: r, j + 1 => congrArg (_ :: ·) (erase_str r j)
/-- [pool.pop(take(..)) for k in range(cnt)]: some of the pool's texts, each once -/
theorem pops {Dr : Dr} {n : Nat} {te : TE} {i : Nat} {σ : L2.St} {pl C : Addr} {zs : List Str} {cnt : Nat} {H0 : Hp} {Qd : Hp → Prop} (hc : cnt ≤ zs.length) (hz : zs.length < 1000) (hpl : H0 pl = some (.lst (zs.map V.str))) (hnpl : pl ∉ Dr.all) (hD : DrAt Dr (n + cnt) H0) (nC : H0 C = none)
    (hte : ∀ (j : Nat) (H2 : Hp) (rest : List Str) (m : Nat) (Q : V → Hp → Prop), H2 pl = some (.lst (rest.map V.str)) → 0 < rest.length → rest.length < 1000 → DrAt Dr (m + 1) H2 →
      (∀ (j : Nat) (y : Str) (H3 : Hp), rest[j]? = some y → H3 pl = some (.lst ((rest.eraseIdx j).map V.str)) → Kp (pl :: Dr.ex) H2 H3 → DrAt Dr m H3 → Q (.str y) H3) → te ((wipe σ [i]).set i (some (.int (0 + j)))) H2 Q)
    (hd : ∀ (H' : Hp) (got rest : List Str), got.length = cnt → (rest ++ got).Perm zs → H' C = some (.lst (got.map V.str)) → Kp (pl :: Dr.ex) H0 H' → DrAt Dr n H' → Qd H') :
    ∃ W : Nat → Nat → Hp → Prop, (∃ m, W 0 m (upd H0 C (.lst []))) ∧ ∀ j m H, W j m H →
      ((Itr 0 cnt).stop j H ∧ Qd H) ∨ ((Itr 0 cnt).go j H ∧ ∃ Nx : Hp → Prop, (∀ H', Nx H' → ∃ m', m' < m ∧ W (j + 1) m' H') ∧ ∀ x H', (Itr 0 cnt).yld j H x H' → gName i x (wipe σ [i]) H' fun σ2 H2 => wipe σ2 [i] = wipe σ [i] ∧ tYes σ2 H2 fun b H3 =>
        if b = true then te σ2 H3 fun y H4 => ∃ acc, H4 C = some (.lst acc) ∧ acc.length < sizeLine ∧ Nx (upd H4 C (.lst (acc ++ [y]))) else Nx H3) := by
  have nCp : C ≠ pl := fun e => by rw [e, hpl] at nC; cases nC
  have nCa : C ∉ Dr.all := hD.fresh nC
  have nCe : C ∉ Dr.ex := Dr.sub nCa
  refine lc_range (lo := 0) (n := cnt) (fun j H' => ∃ rest got : List Str, H' pl = some (.lst (rest.map V.str)) ∧ H' C = some (.lst (got.map V.str)) ∧ (rest ++ got).Perm zs ∧ got.length = j ∧ rest.length + j = zs.length ∧ Kp (C :: pl :: Dr.ex) H0 H' ∧ DrAt Dr (n + (cnt - j)) H') ?_ (fun j H' hj h => ?_) (fun H' h => ?_)
  · refine ⟨zs, [], by rw [upd_ne nCp.symm]; exact hpl, upd_same, by simp, rfl, rfl, Kp.put List.mem_cons_self, (hD.keep (Kp.laid nC)).less (by omega)⟩
  · obtain ⟨rest, got, h1, h2, h3, h4, h5, h6, h7⟩ := h
    refine ⟨wipe_again, ?_⟩
    change te ((wipe σ [i]).set i (some (.int (0 + (j : Int))))) H' _
    refine hte j H' rest (n + (cnt - (j + 1))) _ h1 (by omega) (by omega) (h7.less (by omega)) fun t y H3 ht e3 k3 d3 => ?_
    have hC3 : H3 C = some (.lst (got.map V.str)) := k3 _ _ (fun z => by
      rcases List.mem_cons.mp z with z | z
      · exact nCp z
      · exact nCe z) h2
    have hsl : got.length < sizeLine := small1000 (by omega)
    have ht' := (List.getElem?_eq_some_iff.mp ht).1
    refine ⟨_, hC3, by rw [List.length_map]; exact hsl, rest.eraseIdx t, got ++ [y], by rw [upd_ne nCp.symm]; exact e3, by rw [upd_same, List.map_append]; rfl, ?_, by rw [List.length_append, h4]; rfl, by rw [List.length_eraseIdx_of_lt ht']; omega, (h6.trans (k3.mono fun b hb => List.mem_cons_of_mem _ hb)).trans (Kp.put List.mem_cons_self), ?_⟩
    · refine List.Perm.trans ?_ h3
      have p1 : (y :: rest.eraseIdx t).Perm rest := erase_perm rest t y ht
      have p2 : (rest.eraseIdx t ++ (got ++ [y])).Perm ((y :: rest.eraseIdx t) ++ got) := by
        rw [← List.append_assoc]
        exact List.perm_append_singleton _ _
      exact p2.trans (p1.append_right got)
    · exact d3.upd nCa
  · obtain ⟨rest, got, h1, h2, h3, h4, h5, h6, h7⟩ := h
    exact hd H' got rest h4 h3 h2 (h6.drop nC) (h7.less (by omega))
end NV
/-! D5 -/
set_option Elab.async false
set_option linter.all false
set_option maxRecDepth 100000
set_option maxHeartbeats 400000
namespace NV
open PySem PySem.Spec PyProof.Rows L2
open C8 (pss_cut)
theorem Kp.none_before {D : Dr} {n : Nat} {H H' : Hp} {p : Addr} (k : Kp D.ex H H') (hp : H' p = none) (d : DrAt D n H') : H p = none := by
  cases e : H p with
  | none => rfl
  | some o =>
    rw [k p o (Dr.sub (d.fresh hp)) e] at hp
    cases hp
/-- the element of such a comprehension, by values -/
theorem pop_turn {Dr : Dr} {m : Nat} {pl : Addr} {rest : List Str} {H2 : Hp} {size : Int} {Q : V → Hp → Prop} (hnpl : pl ∉ Dr.all) (h : H2 pl = some (.lst (rest.map V.str))) (hD : DrAt Dr (m + 1) H2) (hs : 0 < size) (hs1 : size ≤ rest.length) (hs2 : rest.length < 1000)
    (q : ∀ (j : Nat) (y : Str) (H3 : Hp), rest[j]? = some y → H3 pl = some (.lst ((rest.eraseIdx j).map V.str)) → Kp (pl :: Dr.ex) H2 H3 → DrAt Dr m H3 → Q (.str y) H3) :
    spTake [.ref Dr.d, .int size] H2 (fun y H3 => rPopAt (.ref pl) [y] H3 Q) (fun _ _ _ => False) := by
  refine ⟨Dr, m, size, rfl, hs, by omega, hD, fun i H3 h0 h1 k d => ?_⟩
  have hlt : i.toNat < rest.length := by omega
  have h3 := k _ _ (Dr.sub hnpl) h
  have g : (rest.map V.str)[i.toNat]? = some (.str rest[i.toNat]) := by rw [List.getElem?_map, List.getElem?_eq_getElem hlt]; rfl
  refine ⟨pl, _, i, i.toNat, _, rfl, rfl, h3, by omega, by omega, sq_at h0 (by rw [List.length_map]; omega), g, ?_⟩
  rw [erase_str]
  exact q i.toNat _ _ (List.getElem?_eq_getElem hlt) upd_same ((k.mono fun b hb => List.mem_cons_of_mem _ hb).trans (Kp.put List.mem_cons_self)) (d.upd hnpl)

abbrev sLawSome : Stmt := topS 46
theorem scLawSome : FnScope ["draw", "things", "least", "most", "pool", "size", "k"] ["draw", "things", "least", "most"] (defScope sLawSome) := ⟨rfl, rfl, rfl, by decide +kernel, rfl, by decide +kernel, by decide +kernel⟩
def spSome (K : PySem.W.Frag) : Sp := fun vs H Q _ => ∃ (D : Dr) (n : Nat) (a : Addr) (zs : List Str) (least most : Nat), vs = [.ref D.d, .ref a, .int least, .int most] ∧ SqL K H a (zs.map V.str) ∧ a ∉ D.all ∧ zs.length < 64 ∧ least ≤ most ∧ most < 64 ∧ DrAt D (n + (1 + most)) H ∧
  ∀ (ys : List Str) (p : Addr) (H' : Hp), (∀ y ∈ ys, y ∈ zs) → (zs.Nodup → Asc ys) → min least zs.length ≤ ys.length → ys.length ≤ most → H p = none → H' p = some (.tup (ys.map V.str)) → Kp D.ex H H' → DrAt D n H' → Q (.ref p) H'
section
variable {P : Program} {w : World} {K : PySem.W.Frag} {mg : Str → Option Value} {base : Heap}
theorem ok_some (DLawSome : Fn K mg "_law_some" sLawSome ["draw", "things", "least", "most"]) (DLawTake : Fn K mg "_law_take" sLawTake ["draw", "size"]) (b_len : mg "len" = none) (b_list : mg "list" = none) (b_tuple : mg "tuple" = none) (b_sorted : mg "sorted" = none) (b_range : mg "range" = none) (b_min : mg "min" = none)
    (GLawTake : FnOk P w K mg base CX0 2 DLawTake.f DLawTake.fd ["draw", "size"] spTake) : FnOk P w K mg base CX0 3 DLawSome.f DLawSome.fd ["draw", "things", "least", "most"] (spSome K) := by
  refine DLawSome.F.ok scLawSome (fun vs H Q E h => ?_) (fun cdv A outer s H vs Q E hr h => ?_)
  · obtain ⟨D, n, a, zs, least, most, rfl, _⟩ := h
    rfl
  obtain ⟨D, n, a, zs, least, most, rfl, hS, ha, l64, hlm, hm64, hD, q⟩ := h
  refine ⟨_, pss_cons (ps_asg (pe_tup (pa_cons (pe_callTy (listE K) (by rfl) b_list (by decide +kernel) (pa_cons (pv 1) pa_nil)) (pa_cons (pe_op op_add (pv 2) (pe_fn DLawTake GLawTake hr (pa_cons (pv 0) (pa_cons (pe_op op_add (pe_op op_sub (pv 3) (pv 2)) pe_int) pa_nil)))) pa_nil))) (pg_tup (by rfl) (pgs_cons (pg_name (i := 4) scLawSome.nd rfl (.inr rfl)) (pgs_cons (pg_name (i := 5) scLawSome.nd rfl (.inl rfl)) pgs_nil))))
      (pss_one (ps_ret (pe_callTy call_tuple_of (by rfl) b_tuple (by decide +kernel) (pa_cons (pe_callB (sortedE K) (by rfl) b_sorted (by decide +kernel) (pa_cons (pe_lc (own := [("k", 6)]) (g := gName 6) (tt := tYes) (by rfl) scLawSome.nd (pi_range1 rfl b_range (pa_cons (pe_callB (call_min2 rfl) (by rfl) b_min (by decide +kernel) (pa_cons (pv 5) (pa_cons (pe_callB (lenE K) (by rfl) b_len (by decide +kernel) (pa_cons (pv 1) pa_nil)) pa_nil))) pa_nil)) (blkOk_by (N := ["draw", "things", "least", "most", "pool", "size", "k"]) (sc := defScope sLawSome) (by decide +kernel)) (fun _ _ _ _ _ => (pg_name (i := 6) scLawSome.nd rfl (.inl rfl))) (fun _ _ _ _ _ => pts_nil) (fun _ _ _ _ _ => (bmE K PySem.F.plainAttrs_list PySem.F.slot_list_pop PySem.F.type_list_pop mt_popAt (pv 4) (pa_cons (pe_fn DLawTake GLawTake hr (pa_cons (pv 0) (pa_cons (pe_callB (lenE K) (by rfl) b_len (by decide +kernel) (pa_cons (pv 4) pa_nil)) pa_nil))) pa_nil)))) pa_nil)) pa_nil)))), ?_⟩
  -- pool, size
  refine ⟨_, rfl, a, _, rfl, .inl hS, fun pl hpl => ?_⟩
  have hDp := hD.keep (H' := upd H pl (.lst (zs.map V.str))) (Kp.laid hpl)
  have npl := hD.fresh hpl
  have epl : upd H pl (.lst (zs.map V.str)) pl = some (.lst (zs.map V.str)) := upd_same
  have k1 : Kp [] H (upd H pl (.lst (zs.map V.str))) := Kp.laid hpl
  generalize upd H pl (.lst (zs.map V.str)) = H1 at hDp epl k1 ⊢
  refine ⟨_, rfl, _, rfl, _, rfl, _, rfl, _, _, rfl, rfl, _, _, rfl, rfl, D, n + most, _, rfl, (by omega), (by omega), hDp.less (by omega), fun i H2 i0 i1 k2 d2 => ?_⟩
  refine ⟨_, _, rfl, rfl, by show 2 ≤ sizeLine; decide, fun t ht => ?_⟩
  refine ⟨t, [.ref pl, .int (least + i)], rfl, SqT.of upd_same, rfl, _, _, rfl, _, _, rfl, rfl, ?_⟩
  have k3 : Kp [] H2 (upd H2 t (.tup [.ref pl, .int (least + i)])) := Kp.laid ht
  have d3 := d2.keep k3
  generalize upd H2 t (.tup [.ref pl, .int (least + i)]) = H3 at k3 d3 ⊢
  -- the comprehension
  have k13 : Kp D.ex H H3 := (k1.mono (by simp)).trans (k2.trans (k3.mono (by simp)))
  have epl3 := k3 _ _ (by simp) (k2 _ _ (Dr.sub npl) epl)
  have hS3 := k13.seqL (Dr.sub ha) hS
  refine ⟨_, rfl, _, rfl, a, _, rfl, .inl hS3, ?_⟩
  obtain ⟨cnt, ec, hc1, hc2, hc3⟩ : ∃ cnt : Nat, (if (((zs.map V.str).length : Nat) : Int) < (least : Int) + i then (((zs.map V.str).length : Nat) : Int) else (least : Int) + i) = (cnt : Int) ∧ cnt ≤ zs.length ∧ cnt ≤ most ∧ min least zs.length ≤ cnt := by
    rw [List.length_map]
    by_cases c : ((zs.length : Nat) : Int) < (least : Int) + i
    · rw [if_pos c]
      exact ⟨zs.length, rfl, Nat.le_refl _, by omega, by omega⟩
    · rw [if_neg c]
      exact ⟨((least : Int) + i).toNat, by omega, by omega, by omega, by omega⟩
  refine ⟨_, _, rfl, ?_⟩
  rw [ec]
  refine ⟨cnt, rfl, by omega, by omega, fun C nC => ?_⟩
  refine pops (Dr := D) (n := n) (zs := zs) (pl := pl) hc1 (by omega) epl3 npl (d3.less (by omega)) nC (fun j H4 rest m Q4 h1 h2 h3 h4 h5 => ?_) (fun H4 got rest hg hp hC k4 d4 => ?_)
  · refine ⟨_, rfl, .inl ⟨rfl, _, SqL.of h1⟩, _, rfl, _, rfl, pl, _, rfl, .inl (SqL.of h1), ?_⟩
    rw [List.length_map]
    exact pop_turn npl h1 h4 (by omega) (by omega) h3 h5
  · have hg64 : got.length < 64 := by omega
    refine ⟨C, got, rfl, SqL.of hC, hg64, fun ys p2 pm srt np2 => ?_⟩
    refine ⟨p2, ys.map V.str, rfl, .inl ⟨SqL.of upd_same, fun p3 np3 => ?_⟩⟩
    have k5 : Kp [] H4 (upd (upd H4 p2 (.lst (ys.map V.str))) p3 (.tup (ys.map V.str))) := (Kp.laid np2).trans (Kp.laid np3)
    have kk : Kp D.ex H (upd H4 p2 (.lst (ys.map V.str))) := ((k13.mono (fun b hb => List.mem_cons_of_mem _ hb) |>.trans k4).drop hpl).trans (Kp.laid np2)
    refine q ys p3 _ (fun y hy => ?_) (fun nd => ?_) ?_ ?_ (kk.none_before np3 (d4.keep (Kp.laid np2))) upd_same ?_ (d4.keep k5)
    · exact hp.mem_iff.mp (List.mem_append_right _ (pm.mem_iff.mp hy))
    · refine sorted_asc srt (pm.nodup_iff.mpr ?_)
      exact (List.nodup_append.mp (hp.nodup_iff.mpr nd)).2.1
    · rw [pm.length_eq, hg]; exact hc3
    · rw [pm.length_eq, hg]; exact hc2
    · refine Kp.trans ?_ (k5.mono (by simp))
      exact (k13.mono (fun b hb => List.mem_cons_of_mem _ hb) |>.trans k4).drop hpl
end
end NV
/-! D6 -/
set_option Elab.async false
set_option linter.all false
set_option maxRecDepth 100000
set_option maxHeartbeats 400000
namespace NV
open PySem PySem.Spec PyProof.Rows L2
open C8 (pss_cut)
def cellPool : List Str := ["a", "b", "c", "ab", "ba", "aa", "zz", "zzzz", "abcd", "q"]
theorem cellPool_nd : cellPool.Nodup := by decide +kernel
abbrev sLawCells : Stmt := topS 47
theorem scLawCells : FnScope ["draw", "many", "pool", "k"] ["draw", "many"] (defScope sLawCells) := ⟨rfl, rfl, rfl, by decide +kernel, rfl, by decide +kernel, by decide +kernel⟩
def spCells : Sp := fun vs H Q _ => ∃ (D : Dr) (n many : Nat), vs = [.ref D.d, .int many] ∧ many ≤ 10 ∧ DrAt D (n + many) H ∧
  ∀ (ys : List Str) (p : Addr) (H' : Hp), Asc ys → (∀ y ∈ ys, y ∈ cellPool) → ys.length = many → H p = none → H' p = some (.lst (ys.map V.str)) → Kp D.ex H H' → DrAt D n H' → Q (.ref p) H'
section
variable {P : Program} {w : World} {K : PySem.W.Frag} {mg : Str → Option Value} {base : Heap}
theorem ok_cells (DLawCells : Fn K mg "_law_cells" sLawCells ["draw", "many"]) (DLawTake : Fn K mg "_law_take" sLawTake ["draw", "size"]) (b_len : mg "len" = none) (b_sorted : mg "sorted" = none) (b_range : mg "range" = none)
    (GLawTake : FnOk P w K mg base CX0 2 DLawTake.f DLawTake.fd ["draw", "size"] spTake) : FnOk P w K mg base CX0 3 DLawCells.f DLawCells.fd ["draw", "many"] spCells := by
  refine DLawCells.F.ok scLawCells (fun vs H Q E h => ?_) (fun cdv A outer s H vs Q E hr h => ?_)
  · obtain ⟨D, n, many, rfl, _⟩ := h
    rfl
  obtain ⟨D, n, many, rfl, hm, hD, q⟩ := h
  refine ⟨_, pss_cons (ps_set (i := 2) scLawCells.nd rfl (.inr rfl) (pe_lst (pa_cons pe_str (pa_cons pe_str (pa_cons pe_str (pa_cons pe_str (pa_cons pe_str (pa_cons pe_str (pa_cons pe_str (pa_cons pe_str (pa_cons pe_str (pa_cons pe_str pa_nil))))))))))))
      (pss_one (ps_ret (pe_callB (sortedE K) (by rfl) b_sorted (by decide +kernel) (pa_cons (pe_lc (own := [("k", 3)]) (g := gName 3) (tt := tYes) (by rfl) scLawCells.nd (pi_range1 rfl b_range (pa_cons (pv 1) pa_nil)) (blkOk_by (N := ["draw", "many", "pool", "k"]) (sc := defScope sLawCells) (by decide +kernel)) (fun _ _ _ _ _ => (pg_name (i := 3) scLawCells.nd rfl (.inl rfl))) (fun _ _ _ _ _ => pts_nil) (fun _ _ _ _ _ => (bmE K PySem.F.plainAttrs_list PySem.F.slot_list_pop PySem.F.type_list_pop mt_popAt (pv 2) (pa_cons (pe_fn DLawTake GLawTake hr (pa_cons (pv 0) (pa_cons (pe_callB (lenE K) (by rfl) b_len (by decide +kernel) (pa_cons (pv 2) pa_nil)) pa_nil))) pa_nil)))) pa_nil)))), ?_⟩
  refine ⟨by show 10 ≤ sizeLine; decide, fun pl hpl => ?_⟩
  show _
  have hDp := hD.keep (H' := upd H pl (.lst (cellPool.map V.str))) (Kp.laid hpl)
  have npl := hD.fresh hpl
  have epl : upd H pl (.lst (cellPool.map V.str)) pl = some (.lst (cellPool.map V.str)) := upd_same
  have k1 : Kp [] H (upd H pl (.lst (cellPool.map V.str))) := Kp.laid hpl
  have eH : upd H pl (.lst [V.str "a", V.str "b", V.str "c", V.str "ab", V.str "ba", V.str "aa", V.str "zz", V.str "zzzz", V.str "abcd", V.str "q"]) = upd H pl (.lst (cellPool.map V.str)) := rfl
  rw [eH]
  generalize upd H pl (.lst (cellPool.map V.str)) = H1 at hDp epl k1 ⊢
  refine ⟨_, rfl, many, rfl, by omega, by omega, fun C nC => ?_⟩
  have hlen : cellPool.length = 10 := rfl
  refine pops (Dr := D) (n := n) (zs := cellPool) (pl := pl) (by omega) (by omega) epl npl hDp nC (fun j H4 rest m Q4 h1 h2 h3 h4 h5 => ?_) (fun H4 got rest hg hp hC k4 d4 => ?_)
  · refine ⟨_, rfl, .inl ⟨rfl, _, SqL.of h1⟩, _, rfl, _, rfl, pl, _, rfl, .inl (SqL.of h1), ?_⟩
    rw [List.length_map]
    exact pop_turn npl h1 h4 (by omega) (by omega) h3 h5
  · have hg64 : got.length < 64 := by omega
    refine ⟨C, got, rfl, SqL.of hC, hg64, fun ys p2 pm srt np2 => ?_⟩
    have kk : Kp D.ex H (upd H4 p2 (.lst (ys.map V.str))) := ((k1.mono (by simp)).trans k4 |>.drop hpl).trans (Kp.laid np2)
    refine q ys p2 _ ?_ (fun y hy => hp.mem_iff.mp (List.mem_append_right _ (pm.mem_iff.mp hy))) (by rw [pm.length_eq, hg]; rfl) ?_ upd_same kk (d4.keep (Kp.laid np2))
    · exact sorted_asc srt (pm.nodup_iff.mpr (List.nodup_append.mp (hp.nodup_iff.mpr cellPool_nd)).2.1)
    · exact ((k1.mono (by simp)).trans k4 |>.drop hpl).none_before np2 d4
end
end NV
/-! D7 -/
set_option Elab.async false
set_option linter.all false
set_option maxRecDepth 100000
set_option maxHeartbeats 400000
namespace NV
open PySem PySem.Spec PyProof.Rows L2
open C8 (pss_cut)
def isSign (digits : Bool) (c : Nat) : Bool := (97 ≤ c && c ≤ 122) || (digits && (48 ≤ c && c ≤ 57))
/-- a word of 1 to most signs -/
def wordB (most : Nat) (digits : Bool) (z : Str) : Bool := decide (1 ≤ z.cps.size) && decide (z.cps.size ≤ most) && z.cps.toList.all (isSign digits)
abbrev idB (z : Str) : Bool := wordB 6 true z
abbrev cellB (z : Str) : Bool := wordB 4 false z
theorem cellPool_ok : ∀ y ∈ cellPool, cellB y = true := by decide +kernel
def idPool : List Str := ["a", "b", "1", "00", "z9", "zzzzzz", "000000", "a1", "q", "write", "query", "budget", "reads", "end"]
def wIds (n : Nat) : List Str := (List.range n).map fun k : Nat => ("w" : Str) ++ Str.ofString (toString (k : Int))
def xIds (n : Nat) : List Str := (List.range n).map fun k : Nat => ("x" : Str) ++ Str.ofString (toString (k : Int))
theorem pool1_62 : (idPool ++ xIds 62).Nodup := by decide +kernel
theorem pool2_62 : (wIds 62 ++ xIds 62).Nodup := by decide +kernel
theorem ids_62 : (∀ y ∈ idPool ++ xIds 62, idB y = true) ∧ ∀ y ∈ wIds 62, idB y = true := by decide +kernel
theorem len_dec : ∀ j : Nat, j < 62 → (Str.ofString (toString (j : Int))).length ≤ 3 := by decide +kernel
theorem w_len (j : Nat) (h : j < 62) : ("w" : Str).length + (Str.ofString (toString (j : Int))).length ≤ sizeLine := by
  have e : ("w" : Str).length = 1 := rfl
  have := len_dec j h
  rw [e, sizeLine_eq]; omega
theorem x_len (j : Nat) (h : j < 62) : ("x" : Str).length + (Str.ofString (toString (j : Int))).length ≤ sizeLine := by
  have e : ("x" : Str).length = 1 := rfl
  have := len_dec j h
  rw [e, sizeLine_eq]; omega
/-- a comprehension over a range whose element is a function of the turn -/
theorem lc_pure {te : TE} {i : Nat} {σ : L2.St} {C : Addr} {cnt : Nat} {H0 : Hp} {Qd : Hp → Prop} (f : Nat → V) (hn : cnt < 1000)
    (hte : ∀ (j : Nat) (H2 : Hp) (Q : V → Hp → Prop), j < cnt → Q (f j) H2 → te ((wipe σ [i]).set i (some (.int (0 + j)))) H2 Q) (hd : Qd (upd H0 C (.lst ((List.range cnt).map f)))) :
    ∃ W : Nat → Nat → Hp → Prop, (∃ m, W 0 m (upd H0 C (.lst []))) ∧ ∀ j m H, W j m H →
      ((Itr 0 cnt).stop j H ∧ Qd H) ∨ ((Itr 0 cnt).go j H ∧ ∃ Nx : Hp → Prop, (∀ H', Nx H' → ∃ m', m' < m ∧ W (j + 1) m' H') ∧ ∀ x H', (Itr 0 cnt).yld j H x H' → gName i x (wipe σ [i]) H' fun σ2 H2 => wipe σ2 [i] = wipe σ [i] ∧ tYes σ2 H2 fun b H3 =>
        if b = true then te σ2 H3 fun y H4 => ∃ acc, H4 C = some (.lst acc) ∧ acc.length < sizeLine ∧ Nx (upd H4 C (.lst (acc ++ [y]))) else Nx H3) := by
  refine lc_range (lo := 0) (n := cnt) (fun j H' => H' = upd H0 C (.lst ((List.range j).map f))) rfl (fun j H' hj e => ?_) (fun H' e => by rw [e]; exact hd)
  subst e
  refine ⟨wipe_again, ?_⟩
  change te ((wipe σ [i]).set i (some (.int (0 + (j : Int))))) _ _
  refine hte j _ _ hj ⟨_, upd_same, ?_, ?_⟩
  · rw [List.length_map, List.length_range]
    exact small1000 (by omega)
  · rw [upd_upd, List.range_succ, List.map_append]
    rfl
theorem range_take {n m : Nat} (h : n ≤ m) : List.range n = (List.range m).take n := by
  rw [List.take_range, Nat.min_eq_left h]
theorem xIds_take {n m : Nat} (h : n ≤ m) : xIds n = (xIds m).take n := by
  unfold xIds
  rw [range_take h, List.map_take]
theorem wIds_take {n m : Nat} (h : n ≤ m) : wIds n = (wIds m).take n := by
  unfold wIds
  rw [range_take h, List.map_take]
theorem xIds_len (n : Nat) : (xIds n).length = n := by unfold xIds; rw [List.length_map, List.length_range]
theorem wIds_len (n : Nat) : (wIds n).length = n := by unfold wIds; rw [List.length_map, List.length_range]
/-- all ids that may be drawn -/
def idAll : List Str := idPool ++ wIds 62 ++ xIds 62
/-- what the pool of ids may be -/
structure IdZs (zs : List Str) : Prop where
  nd : zs.Nodup
  ok : ∀ y ∈ zs, idB y = true
  far : ∀ y ∈ zs, y ∈ idAll
theorem pool1_ok {n : Nat} (h : n ≤ 62) : IdZs (idPool ++ xIds n) := by
  have e := xIds_take h
  have sub : (idPool ++ xIds n).Sublist (idPool ++ xIds 62) := by
    rw [e]
    exact (List.take_sublist _ _).append_left _
  exact ⟨pool1_62.sublist sub, fun y hy => ids_62.1 y (sub.subset hy), fun y hy => by
    rcases List.mem_append.mp (sub.subset hy) with z | z
    · exact List.mem_append_left _ (List.mem_append_left _ z)
    · exact List.mem_append_right _ z⟩
theorem pool2_ok {n : Nat} (h : n ≤ 62) : IdZs (wIds n ++ xIds n) := by
  have s1 : (wIds n).Sublist (wIds 62) := by rw [wIds_take h]; exact List.take_sublist _ _
  have s2 : (xIds n).Sublist (xIds 62) := by rw [xIds_take h]; exact List.take_sublist _ _
  refine ⟨pool2_62.sublist (s1.append s2), fun y hy => ?_, fun y hy => ?_⟩
  · rcases List.mem_append.mp hy with z | z
    · exact ids_62.2 y (s1.subset z)
    · exact ids_62.1 y (List.mem_append_right _ (s2.subset z))
  · rcases List.mem_append.mp hy with z | z
    · exact List.mem_append_left _ (List.mem_append_right _ (s1.subset z))
    · exact List.mem_append_right _ (s2.subset z)
theorem digits_small {j : Nat} (h : j < 1000) : (j : Int).natAbs.log2 < 1920 := by
  have : (j : Int).natAbs.log2 ≤ (j : Int).natAbs := Nat.log2_le_self _
  omega

end NV
/-! D8 -/
set_option Elab.async false
set_option linter.all false
set_option maxRecDepth 100000
set_option maxHeartbeats 400000
namespace NV
open PySem PySem.Spec PyProof.Rows L2
open C8 (pss_cut)
abbrev sLawIds : Stmt := topS 48
theorem scLawIds : FnScope ["draw", "many", "pool", "k"] ["draw", "many"] (defScope sLawIds) := ⟨rfl, rfl, rfl, by decide +kernel, rfl, by decide +kernel, by decide +kernel⟩
def spIds : Sp := fun vs H Q _ => ∃ (D : Dr) (n many : Nat), vs = [.ref D.d, .int many] ∧ many ≤ 62 ∧ DrAt D (n + (1 + many)) H ∧
  ∀ (ys : List Str) (p : Addr) (H' : Hp), IdZs ys → ys.length = many → H p = none → H' p = some (.lst (ys.map V.str)) → Kp D.ex H H' → DrAt D n H' → Q (.ref p) H'
section
variable {P : Program} {w : World} {K : PySem.W.Frag} {mg : Str → Option Value} {base : Heap}
theorem ok_ids (DLawIds : Fn K mg "_law_ids" sLawIds ["draw", "many"]) (DLawTake : Fn K mg "_law_take" sLawTake ["draw", "size"]) (b_len : mg "len" = none) (b_str : mg "str" = none) (b_range : mg "range" = none) (b_min : mg "min" = none)
    (GLawTake : FnOk P w K mg base CX0 2 DLawTake.f DLawTake.fd ["draw", "size"] spTake) : FnOk P w K mg base CX0 3 DLawIds.f DLawIds.fd ["draw", "many"] spIds := by
  refine DLawIds.F.ok scLawIds (fun vs H Q E h => ?_) (fun cdv A outer s H vs Q E hr h => ?_)
  · obtain ⟨D, n, many, rfl, _⟩ := h
    rfl
  obtain ⟨D, n, many, rfl, hm, hD, q⟩ := h
  refine ⟨_, pss_cons (ps_set (i := 2) scLawIds.nd rfl (.inr rfl) (pe_lst (pa_cons pe_str (pa_cons pe_str (pa_cons pe_str (pa_cons pe_str (pa_cons pe_str (pa_cons pe_str (pa_cons pe_str (pa_cons pe_str (pa_cons pe_str (pa_cons pe_str (pa_cons pe_str (pa_cons pe_str (pa_cons pe_str (pa_cons pe_str pa_nil))))))))))))))))
      (pss_cut (ps_if (pt_cmpR op_eq (pe_fn DLawTake GLawTake hr (pa_cons (pv 0) (pa_cons pe_int pa_nil))) pe_int (nomark _))
      (pss_one (ps_set (i := 2) scLawIds.nd rfl (.inr rfl) (pe_lc (own := [("k", 3)]) (g := gName 3) (tt := tYes) (by rfl) scLawIds.nd (pi_range1 rfl b_range (pa_cons (pv 1) pa_nil)) (blkOk_by (N := ["draw", "many", "pool", "k"]) (sc := defScope sLawIds) (by decide +kernel)) (fun _ _ _ _ _ => (pg_name (i := 3) scLawIds.nd rfl (.inl rfl))) (fun _ _ _ _ _ => pts_nil) (fun _ _ _ _ _ => (pe_op op_add_str pe_str (pe_callTy call_str_int (by rfl) b_str (by decide +kernel) (pa_cons (pv 3) pa_nil)))))))
      pss_nil)
      (pss_cons (ps_set (i := 2) scLawIds.nd rfl (.inr rfl) (pe_op op_cat (pv 2) (pe_lc (own := [("k", 3)]) (g := gName 3) (tt := tYes) (by rfl) scLawIds.nd (pi_range1 rfl b_range (pa_cons (pv 1) pa_nil)) (blkOk_by (N := ["draw", "many", "pool", "k"]) (sc := defScope sLawIds) (by decide +kernel)) (fun _ _ _ _ _ => (pg_name (i := 3) scLawIds.nd rfl (.inl rfl))) (fun _ _ _ _ _ => pts_nil) (fun _ _ _ _ _ => (pe_op op_add_str pe_str (pe_callTy call_str_int (by rfl) b_str (by decide +kernel) (pa_cons (pv 3) pa_nil)))))))
      (pss_one (ps_ret (pe_lc (own := [("k", 3)]) (g := gName 3) (tt := tYes) (by rfl) scLawIds.nd (pi_range1 rfl b_range (pa_cons (pv 1) pa_nil)) (blkOk_by (N := ["draw", "many", "pool", "k"]) (sc := defScope sLawIds) (by decide +kernel)) (fun _ _ _ _ _ => (pg_name (i := 3) scLawIds.nd rfl (.inl rfl))) (fun _ _ _ _ _ => pts_nil) (fun _ _ _ _ _ => (bmE K PySem.F.plainAttrs_list PySem.F.slot_list_pop PySem.F.type_list_pop mt_popAt (pv 2) (pa_cons (pe_fn DLawTake GLawTake hr (pa_cons (pv 0) (pa_cons (pe_callB (call_min2 rfl) (by rfl) b_min (by decide +kernel) (pa_cons pe_int (pa_cons (pe_callB (lenE K) (by rfl) b_len (by decide +kernel) (pa_cons (pv 2) pa_nil)) pa_nil))) pa_nil))) pa_nil)))))))), ?_⟩
  refine ⟨by show 14 ≤ sizeLine; decide, fun pl hpl => ?_⟩
  have hDp := hD.keep (H' := upd H pl (.lst (idPool.map V.str))) (Kp.laid hpl)
  have epl : upd H pl (.lst (idPool.map V.str)) pl = some (.lst (idPool.map V.str)) := upd_same
  have k1 : Kp [] H (upd H pl (.lst (idPool.map V.str))) := Kp.laid hpl
  have npl := hD.fresh hpl
  show _
  refine ⟨fun σ H2 => ∃ (p : Addr) (zs : List Str), σ = [some (.ref D.d), some (.int many), some (.ref p), none] ∧ H2 p = some (.lst (zs.map V.str)) ∧ p ∉ D.all ∧ H p = none ∧ IdZs (zs ++ xIds many) ∧ zs.length ≤ 62 ∧ Kp D.ex H H2 ∧ DrAt D (n + many) H2, ?_, ?_⟩
  · generalize hH1 : upd H pl (.lst (idPool.map V.str)) = H1 at hDp epl k1
    rw [show upd H pl (.lst [V.str "a", V.str "b", V.str "1", V.str "00", V.str "z9", V.str "zzzzzz", V.str "000000", V.str "a1", V.str "q", V.str "write", V.str "query", V.str "budget", V.str "reads", V.str "end"]) = H1 from hH1]
    refine ⟨_, rfl, D, n + many, 2, rfl, by decide, by decide, hDp.less (by omega), fun i H2 i0 i1 k2 d2 => ⟨rfl, _, rfl, ite2 (fun c => ?_) (fun c => ?_)⟩⟩
    · refine ⟨_, rfl, many, rfl, by omega, by omega, fun C nC => ?_⟩
      have nC0 : H C = none := ((k1.mono (by simp)).trans k2).none_before nC d2
      refine lc_pure (cnt := many) (fun j => .str (("w" : Str) ++ Str.ofString (toString (j : Int)))) (by omega) (fun j H3 Q3 hj q3 => ?_) ?_
      · refine ⟨_, rfl, _, rfl, (by rw [Int.zero_add]; exact digits_small (j := j) (by omega)), _, _, rfl, rfl, ?_, ?_⟩
        · rw [Int.zero_add]
          exact w_len j (by omega)
        · have e : (0 : Int) + (j : Int) = (j : Int) := by omega
          rw [e]
          exact q3
      · refine ⟨C, wIds many, rfl, ?_, d2.fresh nC, nC0, pool2_ok hm, by rw [wIds_len]; exact hm, ((k1.mono (by simp)).trans k2).trans (Kp.laid nC), (d2.less (by omega)).keep (Kp.laid nC)⟩
        rw [upd_same]
        unfold wIds
        rw [List.map_map]
        rfl
    · exact ⟨pl, idPool, rfl, k2 _ _ (Dr.sub npl) epl, npl, hpl, pool1_ok hm, by decide, (k1.mono (by simp)).trans k2, d2.less (by omega)⟩
  · rintro σ H2 ⟨p, zs, rfl, ep, np, np0, hz, hz2, k2, d2⟩
    -- pool + ['x' + str(k) ..]
    refine ⟨_, rfl, _, rfl, many, rfl, by omega, by omega, fun C nC => ?_⟩
    refine lc_pure (cnt := many) (fun j => .str (("x" : Str) ++ Str.ofString (toString (j : Int)))) (by omega) (fun j H3 Q3 hj q3 => ?_) ?_
    · refine ⟨_, rfl, _, rfl, (by rw [Int.zero_add]; exact digits_small (j := j) (by omega)), _, _, rfl, rfl, ?_, ?_⟩
      · rw [Int.zero_add]
        exact x_len j (by omega)
      · have e : (0 : Int) + (j : Int) = (j : Int) := by omega
        rw [e]
        exact q3
    · have eC : (List.range many).map (fun j : Nat => V.str (("x" : Str) ++ Str.ofString (toString (j : Int)))) = (xIds many).map V.str := by
        unfold xIds
        rw [List.map_map]
        rfl
      have nCp : p ≠ C := fun z => by rw [z, nC] at ep; cases ep
      have hl : (zs.map V.str).length + ((xIds many).map V.str).length ≤ sizeLine := by
        rw [List.length_map, List.length_map, xIds_len]
        exact Nat.le_of_lt (small1000 (by omega))
      refine ⟨p, C, zs.map V.str, (xIds many).map V.str, rfl, rfl, by rw [upd_ne nCp]; exact ep, by rw [← eC]; exact upd_same, hl, fun p2 np2 => ?_⟩
      have k3 : Kp [] H2 (upd (upd H2 C (.lst ((List.range many).map (fun j : Nat => V.str (("x" : Str) ++ Str.ofString (toString (j : Int))))))) p2 (.lst (zs.map V.str ++ (xIds many).map V.str))) := (Kp.laid nC).trans (Kp.laid np2)
      have e2 : (upd (upd H2 C (.lst ((List.range many).map (fun j : Nat => V.str (("x" : Str) ++ Str.ofString (toString (j : Int))))))) p2 (.lst (zs.map V.str ++ (xIds many).map V.str))) p2 = some (.lst ((zs ++ xIds many).map V.str)) := by rw [upd_same, List.map_append]
      have d3 := d2.keep k3
      have np2a : p2 ∉ D.all := (d2.keep (Kp.laid nC)).fresh np2
      have np20 : H p2 = none := (k2.trans (Kp.laid nC)).none_before np2 (d2.keep (Kp.laid nC))
      generalize upd (upd H2 C (.lst ((List.range many).map (fun j : Nat => V.str (("x" : Str) ++ Str.ofString (toString (j : Int))))))) p2 (.lst (zs.map V.str ++ (xIds many).map V.str)) = H3 at k3 e2 d3 ⊢
      have k03 : Kp D.ex H H3 := k2.trans (k3.mono (by simp))
      refine ⟨_, rfl, many, rfl, by omega, by omega, fun C2 nC2 => ?_⟩
      have zl : (zs ++ xIds many).length = zs.length + many := by rw [List.length_append, xIds_len]
      refine pops (Dr := D) (n := n) (zs := zs ++ xIds many) (pl := p2) (cnt := many) (by omega) (by omega) e2 np2a d3 nC2 (fun j H4 rest m Q4 h1 h2 h3 h4 h5 => ?_) (fun H4 got rest hg hp hC k4 d4 => ?_)
      · refine ⟨_, rfl, .inl ⟨rfl, _, SqL.of h1⟩, _, rfl, _, rfl, p2, _, rfl, .inl (SqL.of h1), _, _, rfl, ?_⟩
        rw [List.length_map]
        refine pop_turn np2a h1 h4 ?_ ?_ h3 h5
        · split <;> omega
        · split <;> omega
      · refine q got C2 H4 ⟨(List.nodup_append.mp (hp.nodup_iff.mpr hz.nd)).2.1, fun y hy => hz.ok y (hp.mem_iff.mp (List.mem_append_right _ hy)), fun y hy => hz.far y (hp.mem_iff.mp (List.mem_append_right _ hy))⟩ hg ?_ hC ((k03.mono fun b hb => List.mem_cons_of_mem _ hb).trans k4 |>.drop np20) d4
        exact k03.none_before nC2 d3
end
end NV
/-! D9 -/
set_option Elab.async false
set_option linter.all false
set_option maxRecDepth 100000
set_option maxHeartbeats 400000
namespace NV
open PySem PySem.Spec PyProof.Rows L2
open C8 (pss_cut)
/-! ### data that stands still -/
mutual
def Rp (ex : List Addr) (H : Hp) : PyData → V → Prop
  | .none, v => v = .non
  | .bool b, v => v = .bl b
  | .int i, v => v = .int i
  | .str z, v => v = .str z
  | .list ds, v => ∃ a xs, v = .ref a ∧ a ∉ ex ∧ H a = some (.lst xs) ∧ RpAll ex H ds xs
  | .tuple ds, v => ∃ a xs, v = .ref a ∧ a ∉ ex ∧ H a = some (.tup xs) ∧ RpAll ex H ds xs
  | .dict kvs, v => kvs = [] ∧ ∃ a, v = .ref a ∧ a ∉ ex ∧ H a = some (.dK [])
def RpAll (ex : List Addr) (H : Hp) : List PyData → List V → Prop
  | [], vs => vs = []
  | d :: ds, vs => ∃ v ws, vs = v :: ws ∧ Rp ex H d v ∧ RpAll ex H ds ws
end
mutual
theorem Rp.keep {ex : List Addr} {H H' : Hp} (k : Kp ex H H') : ∀ (d : PyData) (v : V), Rp ex H d v → Rp ex H' d v
  | .none, _, h => h
  | .bool _, _, h => h
  | .int _, _, h => h
  | .str _, _, h => h
  | .list ds, v, h => by
    obtain ⟨a, xs, e, na, h1, h2⟩ := h
    exact ⟨a, xs, e, na, k a _ na h1, RpAll.keep k ds xs h2⟩
  | .tuple ds, v, h => by
    obtain ⟨a, xs, e, na, h1, h2⟩ := h
    exact ⟨a, xs, e, na, k a _ na h1, RpAll.keep k ds xs h2⟩
  | .dict kvs, v, h => by
    obtain ⟨z, a, e, na, h1⟩ := h
    exact ⟨z, a, e, na, k a _ na h1⟩
theorem RpAll.keep {ex : List Addr} {H H' : Hp} (k : Kp ex H H') : ∀ (ds : List PyData) (vs : List V), RpAll ex H ds vs → RpAll ex H' ds vs
  | [], _, h => h
  | d :: ds, vs, h => by
    obtain ⟨v, ws, e, h1, h2⟩ := h
    exact ⟨v, ws, e, Rp.keep k d v h1, RpAll.keep k ds ws h2⟩
end
mutual
theorem Rp.less {ex ex' : List Addr} {H : Hp} (s : ∀ b ∈ ex', b ∈ ex) : ∀ (d : PyData) (v : V), Rp ex H d v → Rp ex' H d v
  | .none, _, h => h
  | .bool _, _, h => h
  | .int _, _, h => h
  | .str _, _, h => h
  | .list ds, v, h => by
    obtain ⟨a, xs, e, na, h1, h2⟩ := h
    exact ⟨a, xs, e, fun z => na (s a z), h1, RpAll.less s ds xs h2⟩
  | .tuple ds, v, h => by
    obtain ⟨a, xs, e, na, h1, h2⟩ := h
    exact ⟨a, xs, e, fun z => na (s a z), h1, RpAll.less s ds xs h2⟩
  | .dict kvs, v, h => by
    obtain ⟨z, a, e, na, h1⟩ := h
    exact ⟨z, a, e, fun z => na (s a z), h1⟩
theorem RpAll.less {ex ex' : List Addr} {H : Hp} (s : ∀ b ∈ ex', b ∈ ex) : ∀ (ds : List PyData) (vs : List V), RpAll ex H ds vs → RpAll ex' H ds vs
  | [], _, h => h
  | d :: ds, vs, h => by
    obtain ⟨v, ws, e, h1, h2⟩ := h
    exact ⟨v, ws, e, Rp.less s d v h1, RpAll.less s ds ws h2⟩
end
theorem RpAll.strs {ex : List Addr} {H : Hp} : ∀ zs : List Str, RpAll ex H (zs.map PyData.str) (zs.map V.str)
  | [] => rfl
  | z :: r => ⟨_, _, rfl, rfl, RpAll.strs r⟩
theorem RpAll.app {ex : List Addr} {H : Hp} : ∀ {ds es : List PyData} {xs ys : List V}, RpAll ex H ds xs → RpAll ex H es ys → RpAll ex H (ds ++ es) (xs ++ ys)
  | [], _, _, _, h, h' => by
    have e : _ = [] := h
    subst e
    exact h'
  | d :: ds, es, xs, ys, h, h' => by
    obtain ⟨v, ws, e, h1, h2⟩ := h
    subst e
    exact ⟨v, ws ++ ys, rfl, h1, RpAll.app h2 h'⟩
theorem RpAll.one {ex : List Addr} {H : Hp} {d : PyData} {v : V} (h : Rp ex H d v) : RpAll ex H [d] [v] := ⟨v, [], rfl, h, rfl⟩
theorem RpAll.len {ex : List Addr} {H : Hp} : ∀ {ds : List PyData} {xs : List V}, RpAll ex H ds xs → ds.length = xs.length
  | [], _, h => by
    have e : _ = [] := h
    rw [e]; rfl
  | d :: ds, xs, h => by
    obtain ⟨v, ws, e, _, h2⟩ := h
    rw [e, List.length_cons, List.length_cons, RpAll.len h2]
/-- all of ex is held -/
def Live (ex : List Addr) (H : Hp) : Prop := ∀ b ∈ ex, H b ≠ none
theorem Live.fresh {ex : List Addr} {H : Hp} {p : Addr} (l : Live ex H) (hp : H p = none) : p ∉ ex := fun z => l p z hp
theorem Live.keep {ex : List Addr} {D : Dr} {n : Nat} {H H' : Hp} (l : Live ex H) (k : Kp D.ex H H') (d : DrAt D n H') : Live ex H' := fun b hb e => by
  have := k.none_before e d
  exact l b hb this
/-! ### entries -/
inductive Ent where
  | wr (id : Str) (rs ws : List Str) (pr : Option Int)
  | qu (id : Str) (cs : List Str)
def prD : Option Int → PyData
  | none => .none
  | some i => .int i
def Ent.data : Ent → PyData
  | .wr id rs ws pr => .tuple [.str "write", .str id, .tuple (rs.map .str), .tuple (ws.map .str), prD pr]
  | .qu id cs => .tuple [.str "query", .str id, .tuple (cs.map .str)]
def Ent.id : Ent → Str
  | .wr id .. => id
  | .qu id _ => id
structure CellsOk (least : Nat) (cs : List Str) : Prop where
  asc : Asc cs
  ok : ∀ c ∈ cs, cellB c = true
  lo : least ≤ cs.length
  hi : cs.length ≤ 3
def PrOk (pr : Option Int) : Prop := ∀ i, pr = some i → 1 ≤ i ∧ i ≤ 99
def Ent.Ok : Ent → Prop
  | .wr id rs ws pr => idB id = true ∧ CellsOk 0 rs ∧ CellsOk 1 ws ∧ PrOk pr
  | .qu id cs => idB id = true ∧ CellsOk 1 cs
structure LogOk (es : List Ent) : Prop where
  ok : ∀ e ∈ es, e.Ok
  nd : (es.map Ent.id).Nodup
def logD (es : List Ent) : PyData := .tuple (es.map Ent.data)

abbrev sLawPrice : Stmt := topS 49
theorem scLawPrice : FnScope ["draw"] ["draw"] (defScope sLawPrice) := ⟨rfl, rfl, rfl, by decide +kernel, rfl, by decide +kernel, by decide +kernel⟩
def prV : Option Int → V
  | none => .non
  | some i => .int i
theorem prV_rp {ex : List Addr} {H : Hp} : ∀ pr, Rp ex H (prD pr) (prV pr)
  | none => rfl
  | some _ => rfl
def spPrice : Sp := fun vs H Q _ => ∃ (D : Dr) (n : Nat), vs = [.ref D.d] ∧ DrAt D (n + 2) H ∧ ∀ (pr : Option Int) (H' : Hp), PrOk pr → Kp D.ex H H' → DrAt D n H' → Q (prV pr) H'
section
variable {P : Program} {w : World} {K : PySem.W.Frag} {mg : Str → Option Value} {base : Heap}
theorem ok_price (DLawPrice : Fn K mg "_law_price" sLawPrice ["draw"]) (DLawTake : Fn K mg "_law_take" sLawTake ["draw", "size"]) (DLawPick : Fn K mg "_law_pick" sLawPick ["draw", "some"])
    (GLawTake : FnOk P w K mg base CX0 2 DLawTake.f DLawTake.fd ["draw", "size"] spTake) (GLawPick : FnOk P w K mg base CX0 3 DLawPick.f DLawPick.fd ["draw", "some"] (spPick K)) : FnOk P w K mg base CX0 4 DLawPrice.f DLawPrice.fd ["draw"] spPrice := by
  refine DLawPrice.F.ok scLawPrice (fun vs H Q E h => ?_) (fun cdv A outer s H vs Q E hr h => ?_)
  · obtain ⟨D, n, rfl, _⟩ := h
    rfl
  obtain ⟨D, n, rfl, hD, q⟩ := h
  refine ⟨_, pss_one (ps_ret (pe_fn DLawPick GLawPick hr (pa_cons (pv 0) (pa_cons (pe_lst (pa_cons pe_int (pa_cons pe_int (pa_cons pe_int (pa_cons pe_int (pa_cons pe_int (pa_cons pe_int (pa_cons pe_int (pa_cons pe_int (pa_cons (pe_op op_add pe_int (pe_fn DLawTake GLawTake hr (pa_cons (pv 0) (pa_cons pe_int pa_nil)))) (pa_cons pe_non pa_nil))))))))))) pa_nil)))), ?_⟩
  refine ⟨_, rfl, _, rfl, D, n + 1, 99, rfl, by decide, by decide, hD, fun i H1 i0 i1 k1 d1 => ⟨_, _, rfl, rfl, by show 10 ≤ sizeLine; decide, fun p hp => ?_⟩⟩
  refine ⟨D, n, p, _, rfl, SqL.of upd_same, by show 0 < 10; decide, by show 10 < 1073741824; decide, Dr.sub (d1.fresh hp), d1.keep (Kp.laid hp), fun j v H' hj k2 d2 => ?_⟩
  have kk : Kp D.ex H H' := k1.trans ((Kp.laid hp).trans k2)
  obtain ⟨pr, rfl, hpr⟩ : ∃ pr, v = prV pr ∧ PrOk pr := by
    match j, hj with
    | 0, h => exact ⟨some 1, (Option.some.inj h).symm, fun i e => by cases e; decide⟩
    | 1, h => exact ⟨some 1, (Option.some.inj h).symm, fun i e => by cases e; decide⟩
    | 2, h => exact ⟨some 1, (Option.some.inj h).symm, fun i e => by cases e; decide⟩
    | 3, h => exact ⟨some 2, (Option.some.inj h).symm, fun i e => by cases e; decide⟩
    | 4, h => exact ⟨some 2, (Option.some.inj h).symm, fun i e => by cases e; decide⟩
    | 5, h => exact ⟨some 3, (Option.some.inj h).symm, fun i e => by cases e; decide⟩
    | 6, h => exact ⟨some 5, (Option.some.inj h).symm, fun i e => by cases e; decide⟩
    | 7, h => exact ⟨some 99, (Option.some.inj h).symm, fun i e => by cases e; decide⟩
    | 8, h => exact ⟨some (1 + i), (Option.some.inj h).symm, fun i' e => by cases e; omega⟩
    | 9, h => exact ⟨none, (Option.some.inj h).symm, fun i e => by cases e⟩
    | j + 10, h => simp at h
  exact q pr H' hpr kk d2
end
end NV
/-! ReprRp -/
set_option Elab.async false
set_option linter.all false
set_option maxRecDepth 100000
set_option maxHeartbeats 600000
/-! repr of data -/
namespace NV
open PySem PySem.Spec PyProof.Rows L2
section
variable {P : Program} {w : World} {ex : List Addr} {H : Hp} {h : Heap}
theorem no_entries (ok : HOk P w H h) {a : Addr} (e : H a = some (.dK [])) : (a == sysModules) = false ∧ ∃ (o : Obj) (es : Array DictEntry) (ep : Nat), h.get? a = some o ∧ o.cls = .type "dict" ∧ o.data = .dict es ep ∧ es.toList = [] := by
  obtain ⟨_, hs, vs, kv, o, es, ep, ho, hx, hd, _, hp, _⟩ := ok a _ e
  cases kv
  refine ⟨hs, o, es, ep, ho, hx.1, hd, ?_⟩
  cases hp' : es.toList with
  | nil => rfl
  | cons x l =>
    rw [hp'] at hp
    cases hp
mutual
theorem rp_reads (ok : HOk P w H h) : ∀ (d : PyData) (v : V) (u : Value), Rp ex H d v → RelV v u → ∃ as, Reads h u d as
  | .none, _, u, e, r => by
    subst e
    obtain rfl : u = Value.none := r
    exact ⟨_, .none⟩
  | .bool b, _, u, e, r => by
    subst e
    obtain rfl : u = Value.bool b := r
    exact ⟨_, .bool b⟩
  | .int i, _, u, e, r => by
    subst e
    obtain ⟨t, rfl⟩ : ∃ t, u = Value.int i t := r
    exact ⟨_, .int i t⟩
  | .str z, _, u, e, r => by
    subst e
    obtain ⟨t, rfl⟩ : ∃ t, u = Value.str z t := r
    exact ⟨_, .str z t⟩
  | .list ds, _, u, e, r => by
    obtain ⟨a, xs, rfl, _, e1, e2⟩ := e
    obtain rfl : u = Value.ref a := r
    obtain ⟨_, its, n, rv, ho⟩ := ok a _ e1
    obtain ⟨as, ra⟩ := rps_reads ok ds xs its e2 rv
    exact ⟨_, .list ho rfl rfl ra⟩
  | .tuple ds, _, u, e, r => by
    obtain ⟨a, xs, rfl, _, e1, e2⟩ := e
    obtain rfl : u = Value.ref a := r
    obtain ⟨_, its, rv, o, ho, hc, n, hd⟩ := ok a _ e1
    obtain ⟨as, ra⟩ := rps_reads ok ds xs its e2 rv
    exact ⟨_, .tuple ho hc hd ra⟩
  | .dict kvs, _, u, e, r => by
    obtain ⟨rfl, a, rfl, _, e1⟩ := e
    obtain rfl : u = Value.ref a := r
    obtain ⟨_, o, es, ep, ho, hc, hd, hn⟩ := no_entries ok e1
    exact ⟨_, .dict ho hc hd (by rw [hn]; exact .nil) (by rw [hn]; exact .nil)⟩
theorem rps_reads (ok : HOk P w H h) : ∀ (ds : List PyData) (vs : List V) (us : List Value), RpAll ex H ds vs → Vals vs us → ∃ as, ReadsAll h us ds as
  | [], _, us, e, r => by
    subst e
    cases r
    exact ⟨_, .nil⟩
  | d :: ds, _, us, e, r => by
    obtain ⟨v, ws, rfl, e1, e2⟩ := e
    cases r with
    | cons r1 r2 =>
      obtain ⟨as, ra⟩ := rp_reads ok d v _ e1 r1
      obtain ⟨bs, rb⟩ := rps_reads ok ds ws _ e2 r2
      exact ⟨_, .cons ra rb⟩
end
mutual
theorem rp_shows (ok : HOk P w H h) : ∀ (d : PyData) (v : V) (u : Value), Rp ex H d v → RelV v u → d.showable = true → d.shown.length ≤ sizeLine → ∃ bs, ReadAtMost h d.depth bs ∧ ReprK P w bs h d.depth u d.shown
  | .none, _, u, e, r, _, _ => by
    subst e
    obtain rfl : u = Value.none := r
    exact ⟨[], (fun _ h => nomatch h), by simp only [PyData.shown]; exact .of_is ReprIs.none _ _ _⟩
  | .bool b, _, u, e, r, _, _ => by
    subst e
    obtain rfl : u = Value.bool b := r
    exact ⟨[], (fun _ h => nomatch h), by simp only [PyData.shown]; exact .of_is (ReprIs.bool b) _ _ _⟩
  | .int i, _, u, e, r, hs, _ => by
    subst e
    obtain ⟨t, rfl⟩ : ∃ t, u = Value.int i t := r
    exact ⟨[], (fun _ h => nomatch h), by simp only [PyData.shown]; exact .of_is (ReprIs.int t (by simpa [PyData.showable] using hs)) _ _ _⟩
  | .str z, _, u, e, r, _, hz => by
    subst e
    obtain ⟨t, rfl⟩ : ∃ t, u = Value.str z t := r
    exact ⟨[], (fun _ h => nomatch h), by simp only [PyData.shown]; exact .of_is (ReprIs.str z t (by simpa only [PyData.shown] using hz)) _ _ _⟩
  | .list ds, v, u, e, r, hs, hz => by
    obtain ⟨as0, r0⟩ := rp_reads ok (.list ds) v u e r
    obtain ⟨a, xs, rfl, _, e1, e2⟩ := e
    obtain rfl : u = Value.ref a := r
    obtain ⟨_, its, n, rv, ho⟩ := ok a _ e1
    have hz' : (listText (PyData.shownAll ds)).length ≤ sizeLine := by simpa only [PyData.shown] using hz
    obtain ⟨bs, hb, hk⟩ := rps_show ok ds xs its e2 rv (by simpa [PyData.showable] using hs) fun t ht => Nat.le_trans (listText_mem_le ht) hz'
    have hna : a ∉ bs := not_mem_of_deeper r0 (by simp only [PyData.depth]; omega) hb
    refine ⟨a :: bs, ReadAtMost.cons r0 (by simp only [PyData.depth]; omega) hb, ?_⟩
    simp only [PyData.depth, PyData.shown]
    cases its with
    | nil =>
      have hl : PyData.shownAll ds = [] := by
        have := hk.length_eq
        exact List.eq_nil_of_length_eq_zero this
      rw [hl, listText_nil]
      exact ReprK.listEmpty ho rfl rfl
    | cons x l => exact ReprK.list ho rfl rfl hna (by simpa using hk.length_eq) (fun i y e => hk.item i y (by simpa using e))
  | .tuple ds, v, u, e, r, hs, hz => by
    obtain ⟨as0, r0⟩ := rp_reads ok (.tuple ds) v u e r
    obtain ⟨a, xs, rfl, _, e1, e2⟩ := e
    obtain rfl : u = Value.ref a := r
    obtain ⟨_, its, rv, o, ho, hc, n, hd⟩ := ok a _ e1
    have hz' : (tupleText (PyData.shownAll ds)).length ≤ sizeLine := by simpa only [PyData.shown] using hz
    obtain ⟨bs, hb, hk⟩ := rps_show ok ds xs its e2 rv (by simpa [PyData.showable] using hs) fun t ht => Nat.le_trans (tupleText_mem_le ht) hz'
    have hna : a ∉ bs := not_mem_of_deeper r0 (by simp only [PyData.depth]; omega) hb
    refine ⟨a :: bs, ReadAtMost.cons r0 (by simp only [PyData.depth]; omega) hb, ?_⟩
    simp only [PyData.depth, PyData.shown]
    exact ReprK.tuple ho hc hd hna hk
  | .dict kvs, v, u, e, r, hs, hz => by
    obtain ⟨as0, r0⟩ := rp_reads ok (.dict kvs) v u e r
    obtain ⟨rfl, a, rfl, _, e1⟩ := e
    obtain rfl : u = Value.ref a := r
    obtain ⟨hsys, o, es, ep, ho, hc, hd, hn⟩ := no_entries ok e1
    refine ⟨[a], ReadAtMost.cons r0 (Nat.zero_le _) (n := 0) (fun _ h => nomatch h), ?_⟩
    exact ReprK.dict ho hc hd hsys (as := []) (by simp) (by rw [hn]; exact .nil)
theorem rps_show (ok : HOk P w H h) : ∀ (ds : List PyData) (vs : List V) (us : List Value), RpAll ex H ds vs → Vals vs us → PyData.showableAll ds = true → (∀ t ∈ PyData.shownAll ds, t.length ≤ sizeLine) →
    ∃ bs, ReadAtMost h (PyData.depthAll ds) bs ∧ ReprAllK P w bs h (PyData.depthAll ds) us (PyData.shownAll ds)
  | [], _, us, e, r, _, _ => by
    subst e
    cases r
    exact ⟨[], (fun _ h => nomatch h), by simp only [PyData.shownAll]; exact .nil⟩
  | d :: ds, _, us, e, r, hs, hz => by
    obtain ⟨v, ws, rfl, e1, e2⟩ := e
    cases r with
    | cons r1 r2 =>
      have hs' : d.showable = true ∧ PyData.showableAll ds = true := by simpa [PyData.showableAll] using hs
      obtain ⟨b1, hb1, k1⟩ := rp_shows ok d v _ e1 r1 hs'.1 (hz _ (by simp only [PyData.shownAll]; exact List.mem_cons_self ..))
      obtain ⟨b2, hb2, k2⟩ := rps_show ok ds ws _ e2 r2 hs'.2 (fun t ht => hz t (by simp only [PyData.shownAll]; exact List.mem_cons_of_mem _ ht))
      refine ⟨b1 ++ b2, ?_, ?_⟩
      · intro b hm
        simp only [PyData.depthAll]
        rcases List.mem_append.mp hm with hm | hm
        · obtain ⟨d', as', r', hd'⟩ := hb1 b hm
          exact ⟨d', as', r', Nat.le_trans hd' (Nat.le_max_left _ _)⟩
        · obtain ⟨d', as', r', hd'⟩ := hb2 b hm
          exact ⟨d', as', r', Nat.le_trans hd' (Nat.le_max_right _ _)⟩
      · simp only [PyData.depthAll, PyData.shownAll]
        exact .cons ((k1.more fun b hb => List.mem_append_left _ hb).level_le (Nat.le_max_left _ _)) (k2.more_le (fun b hb => List.mem_append_right _ hb) (Nat.le_max_right _ _))
end
end
section
variable {X : Cx}
def rRepr : List V → Hp → VK → Prop := fun xs H Q => ∃ (v : V) (d : PyData), xs = [v] ∧ Rp [] H d v ∧ d.showable = true ∧ d.depth ≤ 64 ∧ d.shown.length ≤ sizeLine ∧ Q (.str d.shown) H
theorem cr_repr (hg : X.A.guards = some []) (hu : X.A.units + 80 < cLine) : CallR X (.builtin "repr") rRepr := by
  intro pins s σ H xs us Q I r h
  obtain ⟨v, d, rfl, e, hs, h64, hz, q⟩ := h
  obtain ⟨u, rfl, rv⟩ := vals1 r
  have fin : ∀ {h' : Heap} {u tk}, (∀ b o, s.heap.get? b = some o → h'.get? b = some o) → EP X pins σ Q (.str d.shown u) { s with heap := h', toks := tk } := fun k => ⟨.str d.shown, H, I.kept k, ⟨_, rfl⟩, q⟩
  have hA : X.A.in1.units + d.depth < cLine := by show X.A.units + 1 + d.depth < cLine; omega
  cases d with
  | none =>
    obtain rfl : v = .non := e
    obtain rfl : u = Value.none := rv
    refine PySem.P.repr_of_none ?_
    have := fin (h' := s.heap) (u := s.toks) (tk := s.toks + 1) (fun _ _ e => e)
    simp only [PyData.shown] at this
    exact this
  | bool b =>
    obtain rfl : v = .bl b := e
    obtain rfl : u = Value.bool b := rv
    refine PySem.P.repr_of_bool ?_
    have := fin (h' := s.heap) (u := s.toks) (tk := s.toks + 1) (fun _ _ e => e)
    simp only [PyData.shown] at this
    exact this
  | int i =>
    obtain rfl : v = .int i := e
    obtain ⟨t, rfl⟩ : ∃ t, u = Value.int i t := rv
    refine PySem.P.repr_of_int (by simpa [PyData.showable] using hs) ?_
    have := fin (h' := s.heap) (u := s.toks) (tk := s.toks + 1) (fun _ _ e => e)
    simp only [PyData.shown] at this
    exact this
  | str z =>
    obtain rfl : v = .str z := e
    obtain ⟨t, rfl⟩ : ∃ t, u = Value.str z t := rv
    refine PySem.P.repr_of_str ?_ (by simpa only [PyData.shown] using hz)
    have := fin (h' := s.heap) (u := s.toks) (tk := s.toks + 1) (fun _ _ e => e)
    simp only [PyData.shown] at this
    exact this
  | list ds =>
    obtain ⟨as0, r0⟩ := rp_reads I.hok (.list ds) v u e rv
    obtain ⟨a, xs, rfl, _, e1, e2⟩ := e
    obtain rfl : u = Value.ref a := rv
    obtain ⟨_, its, n, rv', ho⟩ := I.hok a _ e1
    have hz' : (listText (PyData.shownAll ds)).length ≤ sizeLine := by simpa only [PyData.shown] using hz
    obtain ⟨bs, hb, hk⟩ := rps_show I.hok ds xs its e2 rv' (by simpa [PyData.showable] using hs) fun t ht => Nat.le_trans (listText_mem_le ht) hz'
    have hna : a ∉ bs := not_mem_of_deeper r0 (by simp only [PyData.depth]; omega) hb
    simp only [PyData.depth] at hA
    simp only [PyData.shown] at fin
    refine call_repr_slot (by omega) ⟨_, ho, rfl⟩ F.slot_list_repr.toG ?_
    cases its with
    | nil =>
      have hl : PyData.shownAll ds = [] := List.eq_nil_of_length_eq_zero hk.length_eq
      rw [hl, listText_nil] at fin
      exact call_list_repr_empty ⟨_, ho, rfl⟩ ho rfl ⟨_, _, rfl, fin fun _ _ e => e⟩
    | cons x l =>
      exact call_list_reprK ho rfl rfl hna (by simpa using hk.length_eq) (fun i y e => hk.item i y (by simpa using e)) hg (fun b _ => Clear.nil b) hA (fun _ _ e => e) (fun h' u tk k => ⟨_, _, rfl, fin k⟩) hz'
  | tuple ds =>
    obtain ⟨as0, r0⟩ := rp_reads I.hok (.tuple ds) v u e rv
    obtain ⟨a, xs, rfl, _, e1, e2⟩ := e
    obtain rfl : u = Value.ref a := rv
    obtain ⟨_, its, rv', o, ho, hc, n, hd⟩ := I.hok a _ e1
    have hz' : (tupleText (PyData.shownAll ds)).length ≤ sizeLine := by simpa only [PyData.shown] using hz
    obtain ⟨bs, hb, hk⟩ := rps_show I.hok ds xs its e2 rv' (by simpa [PyData.showable] using hs) fun t ht => Nat.le_trans (tupleText_mem_le ht) hz'
    have hna : a ∉ bs := not_mem_of_deeper r0 (by simp only [PyData.depth]; omega) hb
    simp only [PyData.depth] at hA
    simp only [PyData.shown] at fin
    refine call_repr_slot (by omega) ⟨_, ho, hc⟩ F.slot_tuple_repr ?_
    exact call_tuple_reprK ho hc hd hna hk hg (fun b _ => Clear.nil b) hA (fun _ _ e => e) (fun h' u tk k => ⟨_, _, rfl, fin k⟩) hz'
  | dict kvs =>
    obtain ⟨rfl, a, rfl, _, e1⟩ := e
    obtain rfl : u = Value.ref a := rv
    obtain ⟨hsys, o, es, ep, ho, hc, hd, hn⟩ := no_entries I.hok e1
    simp only [PyData.depth, PyData.depthKv] at hA
    simp only [PyData.shown, PyData.shownKv] at fin hz
    refine call_repr_slot (by omega) ⟨_, ho, hc⟩ F.slot_dict_repr ?_
    exact call_dict_reprK ho hc hd hsys (as := []) (by simp) (by rw [hn]; exact .nil) hg (fun b _ => Clear.nil b) hA (fun _ _ e => e) (fun h' u tk k => ⟨_, _, rfl, fin k⟩) hz
end
end NV
/-! FnG -/
set_option Elab.async false
set_option linter.all false
set_option maxRecDepth 100000
set_option maxHeartbeats 600000
/-! defs that run where no repr is under way -/
namespace NV
open PySem PySem.Spec PyProof.Rows L2
structure FnOkG (P : Program) (w : World) (K : PySem.W.Frag) (mg : Str → Option Value) (base : Heap) (CX : CXT) (k : Nat) (f : Addr) (fd : FuncData) (ps : List Str) (sp : Sp) : Prop where
  len : ∀ vs H Q E, sp vs H Q E → vs.length = ps.length
  run : ∀ {A : Around} {outer : List Env} {s : Shared} {H : Hp} {args : Args} {us : List Value} {vs : List V} {Q : VK} {E : XK}, A.guards = some [] → Room k A → Env0 P w K mg base A outer s H → BindsTo s fd args (ps.zip us) → Vals vs us → sp vs H Q E →
    codeAny (model P w) A (.call (.ref f) args) (CR CX outer P w H s Q E) s
theorem FnOkG.of {P : Program} {w : World} {K : PySem.W.Frag} {mg : Str → Option Value} {base : Heap} {CX : CXT} {k : Nat} {f : Addr} {fd : FuncData} {ps : List Str} {sp : Sp} (F : FnOk P w K mg base CX k f fd ps sp) : FnOkG P w K mg base CX k f fd ps sp :=
  ⟨F.len, fun _ hr e b v q => F.run _ _ _ _ _ _ _ _ _ hr e b v q⟩
section
variable {P : Program} {w : World} {K : PySem.W.Frag} {mg : Str → Option Value} {base : Heap}
/-- a def by its body; the body knows that no repr is under way -/
theorem okG {x qual : Str} {st : Stmt} {f : Addr} {fd : FuncData} {N ps : List Str} {k : Nat} {sp : Sp} (F : Fun K x qual st f fd) (S : FnScope N ps (defScope st)) (len : ∀ vs H Q E, sp vs H Q E → vs.length = ps.length)
    (body : ∀ (cdv : Value) (A : Around) (outer : List Env) (s : Shared) (H : Hp) (vs : List V) (Q : VK) (E : XK), (A.deeper (envOfC qual (defScope st) s.heap.objs.size f cdv)).guards = some [] → Room k (A.deeper (envOfC qual (defScope st) s.heap.objs.size f cdv)) → sp vs H Q E →
      ∃ t, PSs (cxOf CX0 P w K mg base N qual (defScope st) f cdv A outer s H E).nox (defBody st) t ∧ t { nx := fun _ H' => Q .non H', rt := Q } (start N vs) H) : FnOkG P w K mg base CX0 (k + 1) f fd ps sp := by
  obtain ⟨oc, od, kV, doc, pm, an, cdv, ct, osl, rfl, lk, hcd⟩ := F.ex
  refine ⟨len, fun {A outer s H args us vs Q E} hg hr e0 hb rel hsp => ?_⟩
  have hl := len _ _ _ _ hsp
  have KX : K.In s.heap := e0.mod.kin.keeps fun b o e => (e0.bs b o e).1
  have lim : s.heap.NoLimit := e0.mod.nolimit.keeps fun b o e => (e0.bs b o e).1
  have named : ∀ y ∈ ps.zip us, (defScope st).names.lookup y.1 = some .local ∨ ((defScope st).names.lookup y.1 = some .cell ∧ ((cellsFrom (s.heap.objs.size + 1) (defScope st).names []).lookup y.1).isSome = true) := fun ⟨n, v⟩ hy =>
    (S.par n (List.of_mem_zip hy).1).elim .inl fun q => .inr ⟨q, PySem.W.cellsFrom_some _ _ _ (.inl q)⟩
  refine codeAny_call_function hr.depth (KX _ _ lk) rfl S.co S.gen rfl (PySem.W.codeRec_of KX hcd) (hb _ _ _ _ (wpAny_newFunctionEnv_cells S.kind named fun env he s1 x => ?_))
  subst he
  obtain ⟨t, ht, hq⟩ := body cdv A outer s H vs Q E hg (hr.deeper _) hsp
  refine ⟨lim.keeps x.toInCall.keep, codeAny_func (wpAny_mono (ht.nox.run [] s1 (start N vs) H _ (inv_start S hr.hd e0 hl rel x) hq) (fun fl s' hs => ?_) fun e s' hs => hs)⟩
  match fl, hs with
  | .ret u, ⟨v, σ', H', J, rv, q⟩ => exact ⟨v, H', J.os, J.bare, J.base, J.hok, rv, q⟩
  | .next, ⟨σ', H', J, q⟩ => exact ⟨.non, H', J.os, J.bare, J.base, J.hok, rfl, q⟩
  | .brk, ⟨_, _, _, q⟩ => exact q.elim
  | .cont, ⟨_, _, _, q⟩ => exact q.elim
end
section
variable {X : Cx} {CX : CXT} {k : Nat} {f : Addr} {fd : FuncData} {ps : List Str} {sp : Sp} {x : Str} {p pos : Pos} {e : Expr} {es : List Expr} {t : TA}
theorem pe_gcall {nm : Str} {st : Stmt} (D : Fn X.K X.mg nm st ps) {j : Nat} (G : FnOkG X.prog X.w X.K X.mg X.base CX0 j D.f D.fd ps sp) (hg0 : X.A.guards = some []) (hr : Room k X.A) (ha : PA X (e :: es) t)
    (hk : j ≤ k := by decide) (hg : Gl X nm := by rfl) (hdb : (nm == ("__debug__" : Str)) = false := by decide) (he : starEach (e :: es) X.env = (false, eval e X.env) :: starEach es X.env := by rfl) (hpl : (backTo pos (starEach es X.env)).any (·.1) = false := by rfl) :
    PE X (.Call (.Name nm p) (e :: es) [] pos) (tCall sp [] (fun _ _ _ => False) t) := by
  refine ⟨fun pins s σ H Q I h => wpAny_Call_Name_kw (ld_glob I hg D.m ?_ hdb)⟩
  refine PySem.W.callWith_K (h₀ := X.base) I.ok.mod.kin D.F.kp (thn (ha.run pos pins s σ H _ I h) fun us s1 ⟨vs, H1, I1, rel, q⟩ => ⟨I1.kIn, ?_⟩) he hpl
  have r2 : Vals (vs ++ []) (us ++ []) := rel.append .nil
  have hl : (us ++ []).length = ps.length := by rw [← r2.length]; exact G.len _ _ _ _ q
  refine wpAny_call (codeAny_mono (G.run hg0 (hr.mono hk) I1.env0 (D.b s1 us I1.kIn hl) r2 q) fun r s' hq => ?_)
  match r, hq with
  | .error e, hq => exact hq.elim
  | .ok (.ret u), hq => exact I1.after hq
  | .ok .next, hq => exact hq.elim
  | .ok .brk, hq => exact hq.elim
  | .ok .cont, hq => exact hq.elim
end
end NV
/-! EndG -/
set_option Elab.async false
set_option linter.all false
set_option maxRecDepth 100000
set_option maxHeartbeats 1000000
/-! the end of a law whose defs ask that no repr be under way -/
namespace NV
open PySem PySem.Spec PyProof.Rows L2
open Classical in
/-- what is tracked at the law's entry: the tables T, and the script where it is no written object -/
noncomputable def entryHp (T : List Addr) (a : Addr) (free : Prop) (u : HO) : Hp := fun b => if b ∈ T then some (.tbl #[]) else if b = a ∧ free then some u else none
section
variable {P : Program} {w : World} {K : PySem.W.Frag} {mg mb : Str → Option Value}
theorem law_callG {CX : CXT} {k : Nat} {fa a : Addr} {cs : List (Addr × Addr)} {fd : FuncData} {x : Str} {sp : Sp} {s : Shared} {vs : List Value} {ns : List Int}
    (KX : K.In s.heap) (glob : s.heap.Ns mainGlobals mg) (blt : s.heap.Ns builtinsNs mb) (boot : ∀ x : Str, x ≠ "__name__" → mb x = bootBuiltins x) (lim : s.heap.NoLimit) (gens : s.gens = #[])
    (tab : ∀ p ∈ cs, s.heap.get? p.2 = some { cls := .none, data := .fields #[] }) (unwr : ∀ p ∈ cs, K.lookup p.2 = none) (code : ∀ p ∈ cs, PySem.W.CodeHd s.heap p.1 p.2)
    (bmod : ∃ (bm : Addr) (ob : Obj), mg "__builtins__" = some (.ref bm) ∧ bm ≠ builtinsNs ∧ s.heap.get? bm = some ob ∧ ob.cls = .type "module" ∧ ob.dict = some builtinsNs ∧ ob.data = .plain)
    (obj : s.heap.get? a = some { cls := .type "list", data := .seq vs.toArray }) (nums : IntsAre vs ns) (few : ns.length ≤ sizeLine) (room : Room k callerA)
    (F : ∀ base : Heap, K.In base → base.Ns mainGlobals mg → (∀ p ∈ cs, LamX.TabB base mg p.1 p.2) → FnOkG P w K mg base CX k fa fd [x] sp) (binds : ∀ (s : Shared) (u : Value), BindsTo s fd ⟨[u], []⟩ [(x, u)])
    (promise : ∀ H : Hp, (∀ p ∈ cs, H p.2 = some (.tbl #[])) → SqL K H a (ns.map V.int) → sp [.ref a] H (fun v _ => v = .bl true) fun _ _ _ => False)
    (noX : ∀ H e s', CX [] H s (fun _ _ _ => False) e s' → False) :
    codeAny (model P w) callerA (.call (.ref fa) ⟨[.ref a], []⟩) (fun r s' => r = .ok (.ret (.bool true)) ∧ OldK s.heap s'.heap ∧ s'.os = s.os ∧ AllBare s'.gens) s := by
  have rv := vals_ints nums
  have lenV := nums.length
  generalize hT : cs.map (·.2) = T
  have inT : ∀ p ∈ cs, p.2 ∈ T := fun p hp => by rw [← hT]; exact List.mem_map.mpr ⟨p, hp, rfl⟩
  have tabT : ∀ b ∈ T, s.heap.get? b = some { cls := .none, data := .fields #[] } ∧ K.lookup b = none := fun b hb => by
    rw [← hT] at hb
    obtain ⟨p, hp, rfl⟩ := List.mem_map.mp hb
    exact ⟨tab p hp, unwr p hp⟩
  have aT : a ∉ T := fun z => by
    have q := (tabT a z).1
    rw [obj] at q
    cases q
  generalize hu : HO.frz { cls := .type "list", data := .seq vs.toArray } (.lst (ns.map V.int)) = u
  generalize hH : entryHp T a (K.lookup a = none) u = H
  have at_T : ∀ b ∈ T, H b = some (.tbl #[]) := fun b hb => by rw [← hH]; exact if_pos hb
  have on_a : ∀ b, b ∉ T → b = a ∧ K.lookup a = none → H b = some u := fun b hb c => by
    rw [← hH]
    exact (if_neg hb).trans (if_pos c)
  have off_a : ∀ b, b ∉ T → ¬ (b = a ∧ K.lookup a = none) → H b = none := fun b hb c => by
    rw [← hH]
    exact (if_neg hb).trans (if_neg c)
  -- nothing tracked is a dict, a module, a code object
  have clear : ∀ {b : Addr} {o : Obj}, s.heap.get? b = some o → (∀ vs n, o.data ≠ .seq vs n) → o.data ≠ .fields #[] → H b = none := fun {b o} e h1 h2 => by
    by_cases hb : b ∈ T
    · have q := (tabT b hb).1
      rw [e] at q
      cases q
      exact (h2 rfl).elim
    · refine off_a b hb ?_
      rintro ⟨rfl, _⟩
      rw [obj] at e
      cases e
      exact h1 _ _ rfl
  have keepB : ∀ {b : Addr} {o : Obj}, s.heap.get? b = some o → (∀ vs n, o.data ≠ .seq vs n) → o.data ≠ .fields #[] → (hidT s.heap H).get? b = some o := fun e h1 h2 => hidT_get e (clear e h1 h2)
  have keepN : ∀ {b : Addr} {m : Str → Option Value}, s.heap.Ns b m → (hidT s.heap H).Ns b m := fun {b m} ⟨o, es, ep, e, d, r⟩ => ⟨o, es, ep, keepB e (by rw [d]; exact fun _ _ z => nomatch z) (by rw [d]; exact fun z => nomatch z), d, r⟩
  have KB : K.In (hidT s.heap H) := fun b o e => hidT_get (KX b o e) (by
    have hb : b ∉ T := fun z => by rw [(tabT b z).2] at e; cases e
    refine off_a b hb ?_
    rintro ⟨rfl, z⟩
    rw [z] at e
    cases e)
  have hok : HOk P w H s.heap := fun b o z => by
    by_cases hb : b ∈ T
    · rw [at_T b hb] at z
      cases z
      exact (tabT b hb).1
    · by_cases c : b = a ∧ K.lookup a = none
      · rw [on_a b hb c, ← hu] at z
        cases z
        rw [c.1]
        exact ⟨obj, by rw [List.length_map]; exact few, vs, _, rv, obj⟩
      · rw [off_a b hb c] at z
        cases z
  have seq : SqL K H a (ns.map V.int) := by
    cases hk : K.lookup a with
    | none => exact .inl (.inr ⟨_, by rw [on_a a aT ⟨rfl, hk⟩, ← hu]⟩)
    | some o =>
      have e := KX a o hk
      rw [obj] at e
      cases e
      exact .inr ⟨_, vs.toArray, _, hk, rfl, rfl, rfl, by rw [List.size_toArray, lenV]; exact few, by simpa using rv⟩
  have TB : ∀ p ∈ cs, LamX.TabB (hidT s.heap H) mg p.1 p.2 := fun p hp => by
    refine ⟨?_, ?_, fun z => ?_⟩
    · obtain ⟨o, us, file, tf, flags, tg, inF, text, tt, e1, r1, r2, r3, r4, r5, r6, r7, r8, r9⟩ := code p hp
      refine ⟨o, us, file, tf, flags, tg, inF, text, tt, keepB e1 (by rw [r2]; exact fun _ _ z => nomatch z) (fun z => ?_), r1, r2, r3, r4, r5, r6, r7, r8, r9⟩
      rw [r2] at z
      cases z
      simp at r3
    · obtain ⟨bm, ob, b1, b2, b3, b4, b5, b6⟩ := bmod
      refine ⟨bm, ob, b1, b2, fun q => ?_, fun q => ?_, keepB b3 (by rw [b6]; exact fun _ _ z => nomatch z) (by rw [b6]; exact fun z => nomatch z), b4, b5, b6⟩
      · obtain ⟨o, es, ep, e, hd, _⟩ := glob
        rw [q, e] at b3
        cases b3
        rw [hd] at b6
        cases b6
      · rw [q, tab p hp] at b3
        cases b3
        cases b6
    · obtain ⟨o, es, ep, e, hd, _⟩ := glob
      rw [z, tab p hp] at e
      cases e
      cases hd
  have e0 : Env0 P w K mg (hidT s.heap H) callerA [] s H := ⟨rfl, ⟨KB, keepN glob, ⟨mb, keepN blt, boot⟩, let ⟨mc, h1, h2⟩ := lim; ⟨mc, keepN h1, h2⟩⟩, fun b o e => of_hidT e, Nat.le_of_eq (hidT_size _ _), trivial, fun b hb => absurd (show b ∈ ([] : List Addr) from hb) (by simp), hok, .of_eq gens⟩
  refine codeAny_mono ((F _ KB (keepN glob) TB).run (us := [.ref a]) (vs := [.ref a]) rfl room e0 (binds s (.ref a)) (.cons rfl .nil) (promise H (fun p hp => at_T _ (inT p hp)) seq)) fun r s' h => ?_
  match r, h with
  | .error e, h => exact (noX H e s' h).elim
  | .ok .next, h => exact False.elim h
  | .ok .brk, h => exact False.elim h
  | .ok .cont, h => exact False.elim h
  | .ok (.ret u'), ⟨v, H', os, bare, un, hok', r', q⟩ =>
    obtain rfl : v = .bl true := q
    obtain rfl : u' = Value.bool true := r'
    have old : ∀ b o, b ∉ T → s.heap.get? b = some o → s'.heap.get? b = some o := fun b o nb e => by
      by_cases c : b = a ∧ K.lookup a = none
      · have z : H b = some u := on_a b nb c
        rw [← hu] at z
        have e1 := (hok b _ z).1
        rw [e] at e1
        cases e1
        exact (hok' b _ (un.frzs b _ _ z)).1
      · exact un.keep b o e (off_a b nb c) (by intro z; exact absurd (show b ∈ ([] : List Addr) from z) (by simp)) (by simp)
    have grown : ∀ b ∈ T, ∃ more : Array Value, s'.heap.get? b = some { cls := .none, data := .fields more } := fun b hb => by
      obtain ⟨more, z⟩ := un.tbls b #[] (at_T b hb)
      exact ⟨_, hok' b _ z⟩
    refine ⟨rfl, ⟨fun b o e => ?_, fun b o e => ?_⟩, os, bare⟩
    · by_cases hb : b ∈ T
      · obtain ⟨more, hm⟩ := grown b hb
        rw [← hT] at hb
        obtain ⟨p, hp, rfl⟩ := List.mem_map.mp hb
        rw [tab p hp] at e
        cases e
        exact .inr (.inl ⟨((code p hp).tab (tab p hp)).isCodeTable, rfl, #[], more, rfl, by rw [Array.empty_append]; exact hm⟩)
      · exact .inl (old b o hb e)
    · by_cases hb : b ∈ T
      · obtain ⟨more, hm⟩ := grown b hb
        exact ⟨_, hm⟩
      · exact ⟨o, old b o hb e⟩
end
/-- what is known of the law's promise behind the top -/
def LawG (l : PySem.W.OpenLaw) (w : World) (K : PySem.W.Frag) (CX : CXT) (k n : Nat) (x : Str) (mg : Str → Option Value) (fa : Addr) (h : Heap) : Prop :=
  ∃ (fd : FuncData) (cs : List (Addr × Addr)) (sp : Sp), ((∀ p ∈ cs, h.get? p.2 = some { cls := .none, data := .fields #[] }) ∧ (∀ p ∈ cs, K.lookup p.2 = none) ∧ ∀ p ∈ cs, PySem.W.CodeHd h p.1 p.2) ∧ (∀ (s : Shared) (u : Value), BindsTo s fd ⟨[u], []⟩ [(x, u)]) ∧
    (∀ (H : Hp) (a : Addr) (ns : List Int), ns.length ≤ n → (∀ z ∈ ns, Builtin.Int.intBits z ≤ 1048576) → (∀ p ∈ cs, H p.2 = some (.tbl #[])) → SqL K H a (ns.map V.int) → sp [.ref a] H (fun v _ => v = .bl true) fun _ _ _ => False) ∧
    ∀ base : Heap, K.In base → base.Ns mainGlobals mg → (∀ p ∈ cs, LamX.TabB base mg p.1 p.2) → FnOkG l.prog w K mg base CX k fa fd [x] sp
theorem walk_ofG {l : PySem.W.OpenLaw} {n k : Nat} {q : Program} {loose : List Str} {XP : (Str → Option Value) → Heap → Prop} {YP : World → Heap → Prop} {d : DefRec} {K : Params → PySem.W.Frag} {x : Str}
    (hn : l.most = some n) (hn2 : n ≤ sizeLine) (hdf : d.params.defaults = []) (hr : Room k callerA) (hY : ∀ (w : World) (h : Heap), YP w h → (K w.params).In h)
    (F : ∀ (w : World) (mg : Str → Option Value) (fa : Addr) (h : Heap), YP w h → (K w.params).In h → h.Ns mainGlobals mg → mg d.name = some (.ref fa) → LawG l w (K w.params) CX0 k n x mg fa h) :
    PySem.W.WalkO q loose XP YP l.row.toRowW d [] (fun f vs => PySem.call f vs) := by
  refine Att.attach_callB hn hdf fun w s0 s mg mb fa o pm cd doc a vs ns G Y ho hd hcd hmg hobj hints hlen hbits hg => ?_
  have KX := hY w _ Y
  obtain ⟨fd, cs, sp, ⟨t1, t2, t3⟩, hb, hsp, hF⟩ := F w mg fa _ Y KX G.T.g hmg
  exact law_callG KX G.T.g G.T.b G.T.builtins G.T.nolimit hg t1 t2 t3 G.T.bmain hobj hints (Nat.le_trans hlen hn2) hr hF hb (fun H hH hS => hsp H a ns hlen hbits hH hS) fun H e s' z => z.elim
end NV
/-! EndK -/
set_option Elab.async false
set_option linter.all false
set_option maxRecDepth 100000
set_option maxHeartbeats 600000
/-! what the top has written, name by name -/
namespace NV
open PySem PySem.Spec PyProof.Rows L2
def At (K : PySem.W.Frag) (nm : Str) (st : Stmt) : Prop := ∃ (f : Addr) (oc : Value) (od : Option Addr) (kV doc pm : Value) (an : Option Addr) (cd ct : Value) (sl : Array (Option Value)),
  PySem.W.nsIn K mainGlobals nm = some (some (.ref f)) ∧ K.lookup f = some ⟨oc, od, .func (PySem.W.fnOf nm nm (defArgs st) (defBody st) (defScope st) .none kV doc pm an cd ct), sl⟩ ∧ PySem.W.codeIn K cd nm = true ∧ PySem.W.keepIn K (.ref f) = true
def AtI (K : PySem.W.Frag) (nm : Str) (i : Int) : Prop := ∃ t, PySem.W.nsIn K mainGlobals nm = some (some (.int i t))
def AtS (K : PySem.W.Frag) (nm : Str) (z : Str) : Prop := ∃ t, PySem.W.nsIn K mainGlobals nm = some (some (.str z t))
section
variable {K : PySem.W.Frag} {h : Heap} {mg : Str → Option Value} {nm : Str} {st : Stmt}
theorem at_mk {f : Addr} {oc : Value} {od : Option Addr} {kV doc pm : Value} {an : Option Addr} {cd ct : Value} {sl : Array (Option Value)} (a : PySem.W.nsIn K mainGlobals nm = some (some (.ref f))) (l : K.lookup f = some ⟨oc, od, .func (PySem.W.fnOf nm nm (defArgs st) (defBody st) (defScope st) .none kV doc pm an cd ct), sl⟩)
    (c : PySem.W.codeIn K cd nm = true) (k : PySem.W.keepIn K (.ref f) = true) : At K nm st := ⟨f, oc, od, kV, doc, pm, an, cd, ct, sl, a, l, c, k⟩
theorem atI_mk {i : Int} {t : Tok} (a : PySem.W.nsIn K mainGlobals nm = some (some (.int i t))) : AtI K nm i := ⟨t, a⟩
theorem atS_mk {z : Str} {t : Tok} (a : PySem.W.nsIn K mainGlobals nm = some (some (.str z t))) : AtS K nm z := ⟨t, a⟩
theorem at_int {i : Int} (X : K.In h) (G : h.Ns mainGlobals mg) (a : AtI K nm i) : ∃ u, mg nm = some u ∧ L2.RelV (.int i) u := by
  obtain ⟨t, e⟩ := a
  exact ⟨_, PySem.W.mg_of X G e, t, rfl⟩
theorem at_str {z : Str} (X : K.In h) (G : h.Ns mainGlobals mg) (a : AtS K nm z) : ∃ u, mg nm = some u ∧ L2.RelV (.str z) u := by
  obtain ⟨t, e⟩ := a
  exact ⟨_, PySem.W.mg_of X G e, t, rfl⟩
theorem fn_at {ps : List Str} (X : K.In h) (G : h.Ns mainGlobals mg) (a : At K nm st)
    (hb : ∀ (kV doc pm : Value) (an : Option Addr) (cdv ct : Value) (us : List Value), us.length = ps.length → bindArgs (PySem.W.fnOf nm nm (defArgs st) (defBody st) (defScope st) .none kV doc pm an cdv ct) ⟨us, []⟩ = pure (ps.zip us)) : Nonempty (Fn K mg nm st ps) := by
  obtain ⟨f, oc, od, kV, doc, pm, an, cd, ct, sl, a1, l1, c1, k1⟩ := a
  have F := fun_mk (st := st) l1 c1 k1
  exact ⟨⟨f, _, F, PySem.W.mg_of X G a1, F.binds hb⟩⟩
/-- a call by the one parameter's name -/
theorem kw_binds {x qual : Str} {f : Addr} {fd : FuncData} {ps ks : List Str} (F : Fun K x qual st f fd)
    (hb : ∀ (kV doc pm : Value) (an : Option Addr) (cdv ct : Value) (us ws : List Value), (us ++ ws).length = ps.length → bindArgs (PySem.W.fnOf x qual (defArgs st) (defBody st) (defScope st) .none kV doc pm an cdv ct) ⟨us, ks.zip ws⟩ = pure (ps.zip (us ++ ws))) : KBinds K fd ps ks (· ++ ·) (· ++ ·) := by
  obtain ⟨oc, od, kV, doc, pm, an, cdv, ct, osl, rfl, lk, hcd⟩ := F.ex
  exact ⟨fun s us ws _ hl => .of_eq (hb kV doc pm an cdv ct us ws hl), fun r1 r2 => r1.append r2⟩
theorem law_binds {x qual y : Str} {f : Addr} {fd : FuncData} (F : Fun K x qual st f fd)
    (hb : ∀ (kV doc pm : Value) (an : Option Addr) (cdv ct : Value) (u : Value), bindArgs (PySem.W.fnOf x qual (defArgs st) (defBody st) (defScope st) .none kV doc pm an cdv ct) ⟨[u], []⟩ = pure [(y, u)]) : ∀ (s : Shared) (u : Value), BindsTo s fd ⟨[u], []⟩ [(y, u)] := by
  obtain ⟨oc, od, kV, doc, pm, an, cdv, ct, osl, rfl, lk, hcd⟩ := F.ex
  exact fun s u => .of_eq (hb kV doc pm an cdv ct u)
end
end NV
/-! W1 -/
set_option Elab.async false
set_option linter.all false
set_option maxRecDepth 100000
set_option maxHeartbeats 600000
/-! ways: cost and path; what a pass over the log from its end finds -/
namespace NV
open PySem PySem.Spec PyProof.Rows L2
open PySem.W (dataLt alike alikeAll keyToks keyToksAll)
abbrev Path := List (Str × Str)
abbrev Way := Option (Int × Path)
def stepD (s : Str × Str) : PyData := .tuple [.str s.1, .str s.2]
def pathD (p : Path) : PyData := .tuple (p.map stepD)
def someD (x : Int × Path) : PyData := .tuple [.int x.1, pathD x.2]
def wayD : Way → PyData
  | none => .none
  | some x => someD x
theorem alike_paths : ∀ p q : Path, alikeAll (p.map stepD) (q.map stepD) = true
  | [], _ => by simp only [List.map_nil, alikeAll]
  | _ :: _, [] => by simp only [List.map_cons, List.map_nil, alikeAll]
  | a :: p, b :: q => by
    rw [List.map_cons, List.map_cons, alikeAll, alike_paths p q]
    simp [stepD, alike, alikeAll]
theorem alike_ways (x y : Int × Path) : alike (someD x) (someD y) = true := by
  unfold someD pathD
  simp [alike, alikeAll, alike_paths]
theorem depth_steps : ∀ p : Path, PyData.depthAll (p.map stepD) ≤ 1
  | [] => by simp [PyData.depthAll]
  | a :: p => by
    have ih := depth_steps p
    rw [List.map_cons]
    simp only [PyData.depthAll, stepD, PyData.depth]
    omega
theorem depth_way (x : Int × Path) : (someD x).depth ≤ 3 := by
  have := depth_steps x.2
  unfold someD pathD
  simp only [PyData.depth, PyData.depthAll]
  omega
def wayLt (x y : Int × Path) : Bool := dataLt (someD x) (someD y)
theorem wayLt_ne {x y : Int × Path} (h : x.1 ≠ y.1) : wayLt x y = decide (x.1 < y.1) := by
  unfold wayLt someD
  rw [PySem.W.dataLt_tuple, PySem.W.dataLt_all_no (by simp [alike]) (by simp [PyData.eqv, h]), PySem.W.dataLt_int]
theorem wayLt_yes {x y : Int × Path} (h : wayLt x y = true) : x.1 ≤ y.1 := by
  by_cases e : x.1 = y.1
  · omega
  · rw [wayLt_ne e] at h
    have := of_decide_eq_true h
    omega
theorem wayLt_no {x y : Int × Path} (h : wayLt x y = false) : y.1 ≤ x.1 := by
  by_cases e : x.1 = y.1
  · omega
  · rw [wayLt_ne e] at h
    have := of_decide_eq_false h
    omega
/-- the first of the least -/
def minW : List (Int × Path) → Way
  | [] => none
  | y :: ys => some (ys.foldl (fun a y => if wayLt y a then y else a) y)
theorem minD_way : ∀ (ys : List (Int × Path)) (y : Int × Path), PySem.W.minD (someD y) (ys.map someD) = someD (ys.foldl (fun a y => if wayLt y a then y else a) y)
  | [], _ => rfl
  | z :: ys, y => by
    have e : PySem.W.minD (someD y) ((z :: ys).map someD) = PySem.W.minD (someD (if wayLt z y then z else y)) (ys.map someD) := by
      unfold PySem.W.minD
      rw [List.map_cons, List.foldl_cons]
      congr 1
      show (if wayLt z y = true then someD z else someD y) = _
      split <;> rfl
    rw [e, minD_way ys]
    rfl
/-! ### the pass -/
def Ent.isW : Ent → Bool
  | .wr .. => true
  | .qu .. => false
def Ent.rs : Ent → List Str
  | .wr _ rs _ _ => rs
  | .qu _ cs => cs
def Ent.ws : Ent → List Str
  | .wr _ _ ws _ => ws
  | .qu .. => []
def Ent.pr : Ent → Option Int
  | .wr _ _ _ pr => pr
  | .qu .. => none
/-- the way past a write of this price -/
def past (pr : Option Int) : Way → Way
  | some (k, p) => match pr with
    | some i => some (k + i, p)
    | none => none
  | none => none
def blocked (e : Ent) (o : Str → Way) : Str → Way := fun c => if c ∈ e.ws then past e.pr (o c) else o c
/-- the better of a reading and the way past the reader -/
def better (x : Int × Path) : Way → Way
  | none => some x
  | some y => if wayLt x y then some x else some y
def readers (e : Ent) (way : Way) (o : Str → Way) : Str → Way := fun c => if c ∈ e.rs then
  match way with
  | none => o c
  | some (k, p) => better (k, (e.id, c) :: p) (o c) else o c
def wayFrom (o : Str → Way) (cs : List Str) : Way := minW (cs.filterMap o)
def endW : Str → Way := fun c => some (0, [("", c)])
def stepB (e : Ent) (o : Str → Way) : Str → Way := match e with
  | .wr .. => readers e (wayFrom o e.ws) (blocked e o)
  | .qu .. => readers e (some (0, [])) o
def onB : List Ent → Str → Way
  | [] => endW
  | e :: rest => stepB e (onB rest)
/-- the writes' ways, the last write first -/
def waysB : List Ent → List (Str × Way)
  | [] => []
  | e :: rest => waysB rest ++ (if e.isW then [(e.id, wayFrom (onB rest) e.ws)] else [])
theorem waysB_ids : ∀ es : List Ent, (waysB es).map (·.1) = ((es.filter Ent.isW).map Ent.id).reverse
  | [] => rfl
  | e :: rest => by
    have ih := waysB_ids rest
    unfold waysB
    rw [List.map_append, ih, List.filter_cons]
    cases e.isW <;> simp
/-! ### costs alone -/
abbrev Cost := Option Int
/-- x is at most y and s more -/
def leC (s : Int) (x y : Cost) : Prop := ∀ b, y = some b → ∃ a, x = some a ∧ a ≤ b + s
theorem leC.refl {s : Int} (h : 0 ≤ s) (x : Cost) : leC s x x := fun b e => ⟨b, e, by omega⟩
def costW : Way → Cost := Option.map (·.1)
theorem cost_past {s : Int} {pr : Option Int} {x y : Way} (h : leC s (costW x) (costW y)) : leC s (costW (past pr x)) (costW (past pr y)) := by
  intro b e
  match y, pr, e with
  | some (k, p), some i, e =>
    obtain ⟨a, ha, hab⟩ := h k rfl
    have e : k + i = b := Option.some.inj e
    match x, ha with
    | some (k', p'), ha =>
      have ha : k' = a := Option.some.inj ha
      exact ⟨k' + i, rfl, by omega⟩
/-- past and its own -/
theorem cost_past_self {i : Int} (x : Way) : leC i (costW (past (some i) x)) (costW x) := by
  intro b e
  match x, e with
  | some (k, p), e =>
    have e : k = b := Option.some.inj e
    exact ⟨k + i, rfl, by omega⟩
theorem cost_better (x : Int × Path) (y : Way) : costW (better x y) = match costW y with | none => some x.1 | some b => some (min x.1 b) := by
  match y with
  | none => rfl
  | some y =>
    show costW (if wayLt x y then some x else some y) = some (min x.1 y.1)
    cases h : wayLt x y with
    | true =>
      have := wayLt_yes h
      show some x.1 = _
      rw [Int.min_eq_left this]
    | false =>
      have := wayLt_no h
      show some y.1 = _
      rw [Int.min_eq_right this]
theorem le_better {s : Int} {a b : Int} {p q : Path} {x y : Way} (h1 : a ≤ b + s) (h2 : leC s (costW x) (costW y)) : leC s (costW (better (a, p) x)) (costW (better (b, q) y)) := by
  rw [cost_better, cost_better]
  intro c e
  cases hy : costW y with
  | none =>
    rw [hy] at e
    have e : b = c := Option.some.inj e
    cases hx : costW x with
    | none => exact ⟨a, rfl, by omega⟩
    | some k => exact ⟨min a k, rfl, by omega⟩
  | some j =>
    obtain ⟨k, hk, hkj⟩ := h2 j hy
    rw [hy] at e
    have e : min b j = c := Option.some.inj e
    rw [hk]
    exact ⟨min a k, rfl, by omega⟩
/-- a further reading never makes it dearer -/
theorem better_le {s : Int} (hs : 0 ≤ s) (x : Int × Path) {y z : Way} (h : leC s (costW y) (costW z)) : leC s (costW (better x y)) (costW z) := by
  intro b e
  obtain ⟨a, ha, hab⟩ := h b e
  rw [cost_better, ha]
  exact ⟨min x.1 a, rfl, by omega⟩
theorem fold_least : ∀ (ys : List (Int × Path)) (y : Int × Path), (ys.foldl (fun a y => if wayLt y a then y else a) y).1 ≤ y.1 ∧ (∀ z ∈ ys, (ys.foldl (fun a y => if wayLt y a then y else a) y).1 ≤ z.1) ∧ (ys.foldl (fun a y => if wayLt y a then y else a) y ∈ y :: ys)
  | [], y => ⟨Int.le_refl _, by simp, by simp⟩
  | z :: ys, y => by
    obtain ⟨h1, h2, h3⟩ := fold_least ys (if wayLt z y then z else y)
    rw [List.foldl_cons]
    have lz : (if wayLt z y then z else y).1 ≤ z.1 ∧ (if wayLt z y then z else y).1 ≤ y.1 := by
      cases h : wayLt z y with
      | true => exact ⟨Int.le_refl _, wayLt_yes h⟩
      | false => exact ⟨wayLt_no h, Int.le_refl _⟩
    refine ⟨by omega, fun u hu => ?_, ?_⟩
    · rcases List.mem_cons.mp hu with e | e
      · rw [e]; omega
      · exact h2 u e
    · rcases List.mem_cons.mp h3 with e | e
      · rw [e]
        cases wayLt z y <;> simp
      · exact List.mem_cons_of_mem _ (List.mem_cons_of_mem _ e)
/-- the least is there, and is the least -/
theorem minW_iff (l : List (Int × Path)) : (l = [] → minW l = none) ∧ (l ≠ [] → ∃ m, minW l = some m ∧ m ∈ l ∧ ∀ z ∈ l, m.1 ≤ z.1) := by
  cases l with
  | nil => exact ⟨fun _ => rfl, fun h => absurd rfl h⟩
  | cons y ys =>
    obtain ⟨h1, h2, h3⟩ := fold_least ys y
    refine ⟨(fun h => by cases h), fun _ => ⟨_, rfl, h3, fun z hz => ?_⟩⟩
    rcases List.mem_cons.mp hz with e | e
    · rw [e]; exact h1
    · exact h2 z e
theorem le_from {s : Int} {o o' : Str → Way} {cs : List Str} (h : ∀ c, leC s (costW (o c)) (costW (o' c))) : leC s (costW (wayFrom o cs)) (costW (wayFrom o' cs)) := by
  intro b e
  have hne : cs.filterMap o' ≠ [] := fun z => by
    have q := (minW_iff (cs.filterMap o')).1 z
    unfold wayFrom at e
    rw [q] at e
    cases e
  obtain ⟨m, hm, hmem, _⟩ := (minW_iff (cs.filterMap o')).2 hne
  unfold wayFrom at e
  rw [hm] at e
  have e : m.1 = b := Option.some.inj e
  obtain ⟨c, hc, hoc⟩ := List.mem_filterMap.mp hmem
  obtain ⟨a, ha, hab⟩ := h c m.1 (by rw [hoc]; rfl)
  obtain ⟨w, hw, rfl⟩ : ∃ w, o c = some w ∧ w.1 = a := by
    cases ho : o c with
    | none => rw [ho] at ha; cases ha
    | some w => rw [ho] at ha; exact ⟨w, rfl, Option.some.inj ha⟩
  have hin : w ∈ cs.filterMap o := List.mem_filterMap.mpr ⟨c, hc, hw⟩
  obtain ⟨m', hm', _, hl⟩ := (minW_iff (cs.filterMap o)).2 (fun z => by rw [z] at hin; cases hin)
  refine ⟨m'.1, by unfold wayFrom; rw [hm']; rfl, ?_⟩
  have := hl w hin
  omega
/-- cheaper ways on make cheaper ways -/
theorem le_step {s : Int} (hs : 0 ≤ s) (e : Ent) {o o' : Str → Way} (h : ∀ c, leC s (costW (o c)) (costW (o' c))) : ∀ c, leC s (costW (stepB e o c)) (costW (stepB e o' c)) := by
  have reads : ∀ (w w' : Way) (u u' : Str → Way), leC s (costW w) (costW w') → (∀ c, leC s (costW (u c)) (costW (u' c))) → ∀ c, leC s (costW (readers e w u c)) (costW (readers e w' u' c)) := by
    intro w w' u u' hw hu c
    unfold readers
    by_cases hc : c ∈ e.rs
    · rw [if_pos hc, if_pos hc]
      match w', w, hw with
      | none, none, _ => exact hu c
      | none, some (k, p), _ => exact better_le hs _ (hu c)
      | some (k', p'), some (k, p), hw =>
        obtain ⟨a, ha, hab⟩ := hw k' rfl
        have ha : k = a := Option.some.inj ha
        exact le_better (by omega) (hu c)
      | some (k', p'), none, hw =>
        obtain ⟨a, ha, _⟩ := hw k' rfl
        cases ha
    · rw [if_neg hc, if_neg hc]
      exact hu c
  match e with
  | .wr id rs ws pr =>
    refine reads _ _ _ _ (le_from h) fun c => ?_
    unfold blocked
    by_cases hc : c ∈ (Ent.wr id rs ws pr).ws
    · rw [if_pos hc, if_pos hc]
      exact cost_past (h c)
    · rw [if_neg hc, if_neg hc]
      exact h c
  | .qu id cs => exact reads (some (0, [])) (some (0, [])) o o' (leC.refl hs _) h
theorem le_pre {s : Int} (hs : 0 ≤ s) {es es' : List Ent} (h : ∀ c, leC s (costW (onB es c)) (costW (onB es' c))) : ∀ pre : List Ent, ∀ c, leC s (costW (onB (pre ++ es) c)) (costW (onB (pre ++ es') c))
  | [] => h
  | e :: pre => le_step hs e (le_pre hs h pre)
/-! ### the costs of the writes, in log order -/
def costsL : List Ent → List (Str × Cost)
  | [] => []
  | e :: rest => (if e.isW then [(e.id, costW (wayFrom (onB rest) e.ws))] else []) ++ costsL rest
theorem costsL_ways : ∀ es : List Ent, costsL es = ((waysB es).map fun x => (x.1, costW x.2)).reverse
  | [] => rfl
  | e :: rest => by
    have ih := costsL_ways rest
    unfold costsL waysB
    rw [ih, List.map_append, List.reverse_append]
    cases e.isW <;> simp
theorem costsL_names : ∀ es : List Ent, (costsL es).map (·.1) = (es.filter Ent.isW).map Ent.id
  | [] => rfl
  | e :: rest => by
    have ih := costsL_names rest
    unfold costsL
    rw [List.map_append, ih, List.filter_cons]
    cases e.isW <;> simp
/-- after's costs are before's, or lower by no more than s: what _law_rises asks -/
def rises (before after : List (Str × Cost)) (s : Int) : Prop := ∀ n x y, (n, x) ∈ before → (n, y) ∈ after → leC s x y
theorem costs_pre {s : Int} (hs : 0 ≤ s) {es es' : List Ent} (h : ∀ c, leC s (costW (onB es c)) (costW (onB es' c))) (own : rises (costsL es) (costsL es') s) : ∀ pre : List Ent, ((pre ++ es).map Ent.id).Nodup → ((pre ++ es').map Ent.id).Nodup → rises (costsL (pre ++ es)) (costsL (pre ++ es')) s
  | [], _, _ => own
  | e :: pre, nd, nd' => by
    have nd2 := List.nodup_cons.mp nd
    have nd2' := List.nodup_cons.mp nd'
    have ih := costs_pre hs h own pre nd2.2 nd2'.2
    have names : ∀ (l : List Ent) n x, (n, x) ∈ costsL l → n ∈ l.map Ent.id := fun l n x hx => by
      have : n ∈ (costsL l).map (·.1) := List.mem_map.mpr ⟨_, hx, rfl⟩
      rw [costsL_names] at this
      obtain ⟨u, hu, rfl⟩ := List.mem_map.mp this
      exact List.mem_map.mpr ⟨u, (List.mem_filter.mp hu).1, rfl⟩
    intro n x y hx hy
    have hx : (n, x) ∈ (if e.isW then [(e.id, costW (wayFrom (onB (pre ++ es)) e.ws))] else []) ++ costsL (pre ++ es) := hx
    have hy : (n, y) ∈ (if e.isW then [(e.id, costW (wayFrom (onB (pre ++ es')) e.ws))] else []) ++ costsL (pre ++ es') := hy
    rcases List.mem_append.mp hx with hx | hx
    · cases hw : e.isW with
      | false => rw [hw] at hx; cases hx
      | true =>
        rw [hw] at hx hy
        simp only [if_true, List.mem_singleton, Prod.mk.injEq] at hx
        rcases List.mem_append.mp hy with hy | hy
        · simp only [if_true, List.mem_singleton, Prod.mk.injEq] at hy
          rw [hx.2, hy.2]
          exact le_from (le_pre hs h pre)
        · exact absurd (by rw [← hx.1]; exact names _ _ _ hy) nd2'.1
    · rcases List.mem_append.mp hy with hy | hy
      · cases hw : e.isW with
        | false => rw [hw] at hy; cases hy
        | true =>
          rw [hw] at hy
          simp only [if_true, List.mem_singleton, Prod.mk.injEq] at hy
          exact absurd (by rw [← hy.1]; exact names _ _ _ hx) nd2.1
      · exact ih n x y hx hy
theorem rises_self {s : Int} (hs : 0 ≤ s) {es : List Ent} (nd : (es.map Ent.id).Nodup) : rises (costsL es) (costsL es) s := by
  intro n x y hx hy
  have names : ((costsL es).map (·.1)).Nodup := by
    rw [costsL_names]
    exact nd.sublist (List.filter_sublist.map _)
  have e : x = y := by
    clear nd hs
    generalize costsL es = l at names hx hy
    induction l with
    | nil => cases hx
    | cons z l ih =>
      rw [List.map_cons] at names
      have nn := List.nodup_cons.mp names
      rcases List.mem_cons.mp hx with a | a <;> rcases List.mem_cons.mp hy with b | b
      · rw [← a] at b
        exact (Prod.mk.inj b).2.symm
      · exact absurd (List.mem_map.mpr ⟨_, b, by rw [← a]⟩) nn.1
      · exact absurd (List.mem_map.mpr ⟨_, a, by rw [← b]⟩) nn.1
      · exact ih nn.2 a b
  rw [e]
  exact leC.refl hs y
end NV
/-! T1 -/
set_option Elab.async false
set_option linter.all false
set_option maxRecDepth 100000
set_option maxHeartbeats 600000
/-! what a target depends on: backwards through the log, and by the last writers -/
namespace NV
open PySem PySem.Spec PyProof.Rows L2
abbrev Row := Str × Str × Option Str
/-! ### backwards, as the package does -/
def openIn (e : Ent) (r : Row) : Bool := r.2.2.isNone && decide (r.2.1 ∈ e.ws)
def closeR (e : Ent) (r : Row) : Row := if openIn e r then (r.1, r.2.1, some e.id) else r
def stepT (e : Ent) (rows : List Row) : List Row := if rows.any (openIn e) then rows.map (closeR e) ++ e.rs.map (fun c => (e.id, c, none)) else rows
/-! ### by the last writers -/
def wr (es : List Ent) (n : Nat) (c : Str) : Bool := match es[n]? with
  | some e => decide (c ∈ e.ws)
  | none => false
/-- the last before n that writes the cell -/
def lastIx (es : List Ent) : Nat → Str → Option Nat
  | 0, _ => none
  | n + 1, c => if wr es n c then some n else lastIx es n c
theorem lastIx_lt {es : List Ent} {c : Str} : ∀ {n j : Nat}, lastIx es n c = some j → j < n ∧ wr es j c = true
  | n + 1, j, h => by
    unfold lastIx at h
    cases hw : wr es n c with
    | true =>
      rw [hw, if_pos rfl] at h
      obtain rfl := Option.some.inj h
      exact ⟨Nat.lt_succ_self _, hw⟩
    | false =>
      rw [hw, if_neg Bool.false_ne_true] at h
      obtain ⟨h1, h2⟩ := lastIx_lt h
      exact ⟨by omega, h2⟩
theorem lastIx_ge {es : List Ent} {c : Str} {p : Nat} (hw : wr es p c = true) : ∀ {n : Nat}, p < n → ∃ j, lastIx es n c = some j ∧ p ≤ j
  | n + 1, h => by
    unfold lastIx
    cases hn : wr es n c with
    | true => exact ⟨n, by rw [if_pos rfl], by omega⟩
    | false =>
      rw [if_neg Bool.false_ne_true]
      have : p ≠ n := fun z => by rw [z, hn] at hw; cases hw
      exact lastIx_ge hw (by omega)
def nameAt (es : List Ent) (j : Nat) : Str := match es[j]? with
  | some e => e.id
  | none => ""
/-- a source that is found from p on -/
def shown (es : List Ent) (p : Nat) : Option Nat → Option Str
  | some j => if p ≤ j then some (nameAt es j) else none
  | none => none
theorem shown_yes {es : List Ent} {p j : Nat} (h : p ≤ j) : shown es p (some j) = some (nameAt es j) := if_pos h
theorem shown_no {es : List Ent} {p j : Nat} (h : ¬ p ≤ j) : shown es p (some j) = none := if_neg h
/-- a row told by place: who reads, what, from which position -/
abbrev Ask := Str × Str × Nat
def rowA (es : List Ent) (p : Nat) (q : Ask) : Row := (q.1, q.2.1, shown es p (lastIx es q.2.2 q.2.1))
def asksAt (es : List Ent) (i : Nat) : List Ask := match es[i]? with
  | some e => e.rs.map fun c => (e.id, c, i)
  | none => []
def hits (es : List Ent) (p : Nat) (qs : List Ask) : Bool := qs.any fun q => decide (lastIx es q.2.2 q.2.1 = some p)
/-- what is asked when all from p on is read -/
def asks (es : List Ent) (q : Ask) : Nat → List Ask
  | 0 => [q]
  | n + 1 => if hits es (q.2.2 - (n + 1)) (asks es q n) then asks es q n ++ asksAt es (q.2.2 - (n + 1)) else asks es q n
def backN (es : List Ent) (k : Nat) (row : Row) : Nat → List Row
  | 0 => [row]
  | n + 1 => match es[k - (n + 1)]? with
    | some e => stepT e (backN es k row n)
    | none => backN es k row n
theorem asks_pos {es : List Ent} {q : Ask} : ∀ {n : Nat}, n ≤ q.2.2 → ∀ r ∈ asks es q n, q.2.2 - n ≤ r.2.2
  | 0, _, r, h => by
    rw [List.mem_singleton.mp h]
    omega
  | n + 1, hn, r, h => by
    unfold asks at h
    by_cases hh : hits es (q.2.2 - (n + 1)) (asks es q n) = true
    · rw [if_pos hh] at h
      rcases List.mem_append.mp h with z | z
      · have := asks_pos (n := n) (by omega) r z
        omega
      · unfold asksAt at z
        cases he : es[q.2.2 - (n + 1)]? with
        | none => rw [he] at z; cases z
        | some e =>
          rw [he] at z
          obtain ⟨c, _, rfl⟩ := List.mem_map.mp z
          exact Nat.le_refl _
    · rw [if_neg hh] at h
      have := asks_pos (n := n) (by omega) r h
      omega
/-- one row, one entry further back -/
theorem open_iff {es : List Ent} {p : Nat} {e : Ent} {q : Ask} (he : es[p]? = some e) (hq : p < q.2.2) : openIn e (rowA es (p + 1) q) = decide (lastIx es q.2.2 q.2.1 = some p) := by
  have hw : wr es p q.2.1 = decide (q.2.1 ∈ e.ws) := by
    unfold wr
    rw [he]
  unfold openIn rowA
  dsimp only
  cases hl : lastIx es q.2.2 q.2.1 with
  | none =>
    have : decide (q.2.1 ∈ e.ws) = false := by
      rw [← hw]
      cases h : wr es p q.2.1 with
      | false => rfl
      | true =>
        obtain ⟨j, hj, _⟩ := lastIx_ge h hq
        rw [hl] at hj; cases hj
    rw [this, Bool.and_false]
    rfl
  | some j =>
    obtain ⟨_, hj⟩ := lastIx_lt hl
    by_cases h : p + 1 ≤ j
    · rw [shown_yes h]
      have : ¬ (some j = some p) := fun z => by have := Option.some.inj z; omega
      rw [decide_eq_false this]
      rfl
    · rw [shown_no h]
      by_cases hjp : j = p
      · subst hjp
        rw [← hw, hj, decide_eq_true (rfl : some j = some j)]
        rfl
      · have : decide (q.2.1 ∈ e.ws) = false := by
          rw [← hw]
          cases hx : wr es p q.2.1 with
          | false => rfl
          | true =>
            obtain ⟨j', hj', le⟩ := lastIx_ge hx hq
            rw [hl] at hj'
            have := Option.some.inj hj'
            omega
        rw [this, Bool.and_false, decide_eq_false (fun z => hjp (Option.some.inj z))]
theorem close_row {es : List Ent} {p : Nat} {e : Ent} {q : Ask} (he : es[p]? = some e) (hq : p < q.2.2) : closeR e (rowA es (p + 1) q) = rowA es p q := by
  unfold closeR
  rw [open_iff he hq]
  unfold rowA
  cases hl : lastIx es q.2.2 q.2.1 with
  | none => rw [decide_eq_false (by simp), if_neg Bool.false_ne_true]; rfl
  | some j =>
    by_cases hj : j = p
    · subst hj
      rw [decide_eq_true rfl, if_pos rfl]
      rw [shown_yes (Nat.le_refl _)]
      unfold nameAt
      rw [he]
    · rw [decide_eq_false (fun z => hj (Option.some.inj z)), if_neg Bool.false_ne_true]
      by_cases h : p + 1 ≤ j
      · rw [shown_yes h, shown_yes (by omega)]
      · rw [shown_no h, shown_no (by omega)]
/-- the package's rows are those of the last writers -/
theorem back_asks {es : List Ent} {q : Ask} (hk : q.2.2 ≤ es.length) : ∀ n, n ≤ q.2.2 → backN es q.2.2 (q.1, q.2.1, none) n = (asks es q n).map (rowA es (q.2.2 - n))
  | 0, _ => by
    show [(q.1, q.2.1, none)] = [rowA es (q.2.2 - 0) q]
    unfold rowA
    cases hl : lastIx es q.2.2 q.2.1 with
    | none => rfl
    | some j =>
      have := (lastIx_lt hl).1
      rw [shown_no (by omega)]
  | n + 1, hn => by
    have ih := back_asks hk n (by omega)
    obtain ⟨e, he⟩ : ∃ e, es[q.2.2 - (n + 1)]? = some e := ⟨_, List.getElem?_eq_getElem (by omega)⟩
    have hp : q.2.2 - n = q.2.2 - (n + 1) + 1 := by omega
    have pos : ∀ r ∈ asks es q n, q.2.2 - (n + 1) < r.2.2 := fun r hr => by
      have := asks_pos (n := n) (by omega) r hr
      omega
    show (match es[q.2.2 - (n + 1)]? with | some e => stepT e (backN es q.2.2 (q.1, q.2.1, none) n) | none => backN es q.2.2 (q.1, q.2.1, none) n) = _
    rw [he]
    dsimp only
    rw [ih, hp]
    have hany : ((asks es q n).map (rowA es (q.2.2 - (n + 1) + 1))).any (openIn e) = hits es (q.2.2 - (n + 1)) (asks es q n) := by
      unfold hits
      rw [List.any_map]
      apply Bool.eq_iff_iff.mpr
      rw [List.any_eq_true, List.any_eq_true]
      constructor
      · rintro ⟨r, hr, h⟩
        exact ⟨r, hr, by rw [← open_iff he (pos r hr)]; exact h⟩
      · rintro ⟨r, hr, h⟩
        exact ⟨r, hr, by show openIn e (rowA es _ r) = true; rw [open_iff he (pos r hr)]; exact h⟩
    have hmap : ((asks es q n).map (rowA es (q.2.2 - (n + 1) + 1))).map (closeR e) = (asks es q n).map (rowA es (q.2.2 - (n + 1))) := by
      rw [List.map_map]
      exact List.map_congr_left fun r hr => close_row he (pos r hr)
    unfold stepT
    rw [hany]
    show _ = (if hits es (q.2.2 - (n + 1)) (asks es q n) then asks es q n ++ asksAt es (q.2.2 - (n + 1)) else asks es q n).map (rowA es (q.2.2 - (n + 1)))
    by_cases hh : hits es (q.2.2 - (n + 1)) (asks es q n) = true
    · rw [if_pos hh, if_pos hh, List.map_append, hmap]
      congr 1
      unfold asksAt
      rw [he]
      dsimp only
      rw [List.map_map]
      refine List.map_congr_left fun c _ => ?_
      show ((e.id, c, none) : Row) = (e.id, c, shown es (q.2.2 - (n + 1)) (lastIx es (q.2.2 - (n + 1)) c))
      cases hl : lastIx es (q.2.2 - (n + 1)) c with
      | none => rfl
      | some j =>
        have := (lastIx_lt hl).1
        rw [shown_no (by omega)]
    · rw [if_neg hh, if_neg hh]
      refine List.map_congr_left fun r hr => ?_
      rw [← close_row he (pos r hr)]
      have no : openIn e (rowA es (q.2.2 - (n + 1) + 1) r) = false := by
        rw [open_iff he (pos r hr)]
        cases hd : decide (lastIx es r.2.2 r.2.1 = some (q.2.2 - (n + 1))) with
        | false => rfl
        | true => exact absurd (List.any_eq_true.mpr ⟨r, hr, hd⟩) hh
      unfold closeR
      rw [no, if_neg Bool.false_ne_true]
end NV
/-! EnumT -/
set_option Elab.async false
set_option linter.all false
set_option maxRecDepth 100000
set_option maxHeartbeats 600000
/-! enumerate of a tuple -/
namespace NV
open PySem PySem.Spec PyProof.Rows
open L2
def ItnM (K : PySem.W.Frag) (a : Addr) : It where
  go := fun i H => ∃ xs, SqT K H a xs ∧ i < xs.length
  yld := fun i H v H' => ∃ T x, H T = none ∧ v = .ref T ∧ H' = upd H T (.tup [.int (i : Nat), x]) ∧ ∀ xs, SqT K H a xs → xs[i]? = some x
  stop := fun i H => ∃ xs, SqT K H a xs ∧ xs.length = i
/-- the two cells of such an enumerate after i turns -/
structure EM (a e it : Addr) (i : Nat) (h : Heap) : Prop where
  num : ∃ old, IsEnum h e it (i : Nat) old
  src : h.IsTupleIter it a i
  ne : e ≠ it
section
variable {a e it : Addr} {i : Nat} {h h' : Heap}
theorem EM.cell (m : EM a e it i h) {c : Addr} (hc : c ∈ [e, it]) : ∃ o, h.get? c = some o ∧ ∀ v, o.data ≠ .cell v := by
  obtain ⟨old, hn⟩ := m.num
  obtain ⟨f, hf, _, df⟩ := m.src
  simp only [List.mem_cons, List.not_mem_nil, or_false] at hc
  rcases hc with z | z <;> subst z
  · exact ⟨_, hn, nofun⟩
  · exact ⟨f, hf, fun v y => nomatch df.symm.trans y⟩
theorem EM.frame (m : EM a e it i h) (k : ∀ c ∈ [e, it], ∀ o, h.get? c = some o → h'.get? c = some o) : EM a e it i h' where
  num := m.num.imp fun old hn => k e (by simp) _ hn
  src := m.src.at (k it (by simp))
  ne := m.ne
theorem EM.apart (m : EM a e it i h) {u : Array Value} (ht : h.IsTuple a u) : a ≠ it ∧ e ∉ [it, a] := by
  obtain ⟨old, hn⟩ := m.num
  obtain ⟨f, hf, _, df⟩ := m.src
  obtain ⟨t, h1, _, _, d1⟩ := ht
  refine ⟨?_, fun hm => ?_⟩
  · rintro rfl
    obtain rfl : f = t := Option.some.inj (hf.symm.trans h1)
    exact nomatch df.symm.trans d1
  · simp only [List.mem_cons, List.not_mem_nil, or_false] at hm
    rcases hm with z | z
    · exact m.ne z
    · subst z
      have := Option.some.inj (hn.symm.trans h1)
      rw [← this] at d1
      cases d1
end
section
variable {P : Program} {w : World} {K : PySem.W.Frag} {elts : List Expr} {kk : Nat} {tpos : Pos} {a e it : Addr}
theorem turn_enumT : Turn P w K (.Tuple elts kk tpos) (ItnM K a) [e, it] e (EM a e it) := by
  constructor
  · exact List.mem_cons_self
  · exact fun i h m c hc => m.cell hc
  · exact fun i h h' m k => m.frame k
  · rintro X rfl rfl rfl calm i pins s σ H E I free m ⟨xs, tup, l1⟩
    obtain ⟨us, ru, t1, _⟩ := I.tuple tup
    obtain ⟨x, hx⟩ : ∃ x, xs[i]? = some x := ⟨_, List.getElem?_eq_getElem l1⟩
    obtain ⟨u, hu, rxu⟩ := ru.get hx
    obtain ⟨n1, n2⟩ := m.apart t1
    obtain ⟨old, hn⟩ := m.num
    have still : X.A.in1.handled = none := I.ok.hd calm
    refine wpAny_pyNext_enum_itemD (.tuple still it a n1 us.toArray) hn ⟨m.src, t1⟩ ?_ m.ne n2 fun u' h1 tk eu out st pair _ hk => ?_
    · have := ru.length
      simp
      omega
    have eu : us.toArray[i]? = some u' := eu
    rw [List.getElem?_toArray, hu] at eu
    obtain rfl := Option.some.inj eu
    refine ⟨_, rfl, wpAny_letOwnedTupleGo_enum (s := { s with heap := h1, toks := tk + 1 }) out fun h2 e2 same => ?_⟩
    have lt : ∀ c ∈ [e, it], c < s.heap.objs.size := fun c hc => by
      obtain ⟨o, ho, _⟩ := m.cell hc
      exact Heap.lt_size ho
    have enew : s.heap.objs.size ≠ e := (Nat.ne_of_lt (lt e List.mem_cons_self)).symm
    have rest : ∀ c o, c ∉ [e, it] → s.heap.get? c = some o → h2.get? c = some o := fun c o hc y => by
      simp only [List.mem_cons, List.not_mem_nil, or_false, not_or] at hc
      exact (same.2 c hc.1).trans (hk c o hc.1 hc.2 y)
    have I2 := I.turnedNew (t' := tk + 1) (h' := h2) (ob := .tup [.int (i : Nat), x]) rest free (Nat.le_refl s.heap.objs.size)
      ⟨by show 2 ≤ sizeLine; decide, [.int (i : Nat) tk, u], .cons ⟨tk, rfl⟩ (.cons rxu .nil), ⟨_, (same.2 _ enew).trans pair, rfl, _, rfl⟩⟩
    refine ⟨.ref s.heap.objs.size, _, I2, rfl, ⟨s.heap.objs.size, x, I.hok.fresh (Nat.le_refl _), rfl, rfl, fun xs' hx' => ?_⟩, ?_, fun c hc => ?_⟩
    · rw [I.tuple_inj hx' tup]
      exact hx
    · exact { num := ⟨u, e2⟩
              src := st.1.at fun o y => (same.2 it m.ne.symm).trans y
              ne := m.ne }
    · rw [upd_ne (Nat.ne_of_lt (lt c hc))]
      exact (free c hc).1
  · rintro X rfl rfl rfl calm i pins s σ H E I free m ⟨xs, tup, l1⟩
    obtain ⟨us, ru, t1, _⟩ := I.tuple tup
    obtain ⟨n1, n2⟩ := m.apart t1
    obtain ⟨old, hn⟩ := m.num
    have still : X.A.in1.handled = none := I.ok.hd calm
    have e1 : i = us.toArray.size := by
      have := ru.length
      simp
      omega
    refine wpAny_pyNext_enum_endD (.tuple still it a n1 us.toArray) hn (by rw [← e1]; exact ⟨m.src, t1⟩) fun h1 ext => ⟨rfl, I.turnedL (t' := s.toks) (fun c o hc y => ext c o (fun z => hc (by rw [z]; simp)) y) free⟩
  · exact fun A i s Q E m q => by
      obtain ⟨old, hn⟩ := m.num
      exact wpAny_pyIter_enum hn q
end
/-- enumerate(v), v of any kind that begins -/
theorem meets_enum1 {v : Value} {o : Obj} {W : Heap → Prop} (B : Begins v o W) :
    Meets (Builtin.«enumerate.__new__» ⟨[.type "enumerate", v], []⟩) (fun _ R s => W s.heap ∧ R (.ok (.ret (.ref (s.heap.push o).objs.size))) { s with heap := (s.heap.push o).push { cls := .type "enumerate", data := .fields #[.none, .bool false, .ref s.heap.objs.size, rawInt 0, .none, .none] } }) :=
  .of_wp fun prog w A R s h => by
    obtain ⟨hp, g, d, tk, os⟩ := s
    obtain ⟨h1, h⟩ := h
    have hsub := sub_enumerate
    have begin_ : ∀ {A' : Around} {E : Value → Shared → Prop} {Q : Value → Shared → Prop}, Q (.ref hp.objs.size) ⟨hp.push o, g, d, tk, os⟩ → wpAny (model prog w) A' (pyIter v) Q E ⟨hp, g, d, tk, os⟩ := fun q => B.iter prog w _ _ _ _ h1 q
    wp_walk using begin_
    refine wpAny_stack_any fun st => wpAny_pure ?_
    split
    · rename_i c _ _ _ _ _
      cases (c == Value.type "enumerate") <;> (wp_walk using begin_; exact ⟨_, rfl, h⟩)
    · wp_walk using begin_
      exact ⟨_, rfl, h⟩
section
variable {prog : Program} {w : World} {A : Around} {E : Value → Shared → Prop} {s : Shared}
theorem enum_begins1 {v : Value} {o : Obj} {W : Heap → Prop} {Q : Value → Shared → Prop} (B : Begins v o W) (h1 : W s.heap)
    (h : ∀ h', IsEnum h' (s.heap.objs.size + 1) s.heap.objs.size 0 .none → h'.get? s.heap.objs.size = some o → (∀ b y, s.heap.get? b = some y → h'.get? b = some y) → Q (.ref (s.heap.objs.size + 1)) { s with heap := h' }) :
    wpAny (model prog w) A (call (.type "enumerate") [v]) Q E s := by
  refine callType_new F.called_enumerate (by decide) (F.typeCall_enumerate_1 _) (F.newCall_enumerate_1 _) (fun obj => F.args_object_init_2 obj _) F.entry_enumerate_new (meets_enum1 B) ⟨h1, ?_⟩
  have size : (s.heap.push o).objs.size = s.heap.objs.size + 1 := Heap.size_push ..
  have made := Heap.get?_push_size (s.heap.push o) (o := { cls := .type "enumerate", data := .fields #[.none, .bool false, .ref s.heap.objs.size, rawInt 0, .none, .none] }) rfl
  rw [size] at made
  show _ ∧ _
  rw [size]
  exact ⟨⟨_, made, rfl⟩, h _ made (Heap.get?_push_of_some _ (Heap.get?_push_size _ B.free)) fun b y e => Heap.get?_push_of_some _ (Heap.get?_push_of_some _ e)⟩
end
def iEnumT (K : PySem.W.Frag) (ta : TA) : TI := fun σ H R => ta σ H fun vs H1 => ∃ a xs, vs = [.ref a] ∧ SqT K H1 a xs ∧ R (ItnM K a) H1
theorem pi_enumT {X : Cx} {e : Expr} {ta : TA} {p pos tpos : Pos} {elts : List Expr} {kk : Nat} (K : PySem.W.Frag) (hg : Gl X "enumerate") (hm : X.mg "enumerate" = none) (ha : PA X [e] ta) (hK : X.K = K := by rfl)
    (h1 : starEach [e] X.env = (false, eval e X.env) :: starEach [] X.env := by rfl) (h2 : (backTo pos (starEach [] X.env)).any (·.1) = false := by rfl) :
    PI X (.Tuple elts kk tpos) (.Call (.Name "enumerate" p) [e] [] pos) (iEnumT K ta) := by
  subst hK
  constructor
  intro pins s σ H R I h
  refine Call_ (ld_blt I hg hm boot_enumerate (callWith_type1 (thn (ha.run pos pins s σ H _ I h) ?_) h1 h2))
  rintro us s1 ⟨_, H1, J, rel, a, xs, rfl, tup, q⟩
  cases rel with
  | cons ra rest =>
    cases rest
    cases ra
    obtain ⟨us, _, t1, _⟩ := J.tuple tup
    refine enum_begins1 (begins_tuple a us.toArray) t1 fun h' hn f hk => wpAny_pyIter_enum hn ?_
    refine ⟨s1.heap.objs.size + 1, _, _, _, H1, rfl, J.kept (t' := s1.toks) hk, turn_enumT, ⟨⟨_, hn⟩, ⟨_, f, rfl, rfl⟩, fun z => Nat.succ_ne_self _ z⟩, fun c hc => ?_, q⟩
    have le : (s1.heap.objs.size : Nat) ≤ (c : Nat) := by
      simp only [List.mem_cons, List.not_mem_nil, or_false] at hc
      rcases hc with z | z <;> rw [z]
      · exact Nat.le_add_right _ _
      · exact Nat.le_refl _
    exact J.fpOk le (J.hok.fresh le)
theorem for_enumT {K : PySem.W.Frag} {a : Addr} {xs : List V} {g : TG} {tb : TS} {D : Ends} {σ : L2.St} {H : Hp} (Pv : Nat → L2.St → Hp → Prop) (h0 : Pv 0 σ H) (hq : ∀ i σ H, Pv i σ H → SqT K H a xs)
    (turn : ∀ (i : Nat) (x : V) (T : Addr) (σ : L2.St) (H : Hp), xs[i]? = some x → Pv i σ H → H T = none → g (.ref T) σ (upd H T (.tup [.int (i : Nat), x])) fun σ2 H2 => tb { D with nx := Pv (i + 1), ct := Pv (i + 1), bk := D.nx } σ2 H2) (last : ∀ σ H, Pv xs.length σ H → D.nx σ H) :
    ∃ W : Nat → Nat → L2.St → Hp → Prop, (∃ m, W 0 m σ H) ∧ ∀ i m σ H, W i m σ H → ((ItnM K a).stop i H ∧ D.nx σ H) ∨
      ((ItnM K a).go i H ∧ ∃ N : L2.St → Hp → Prop, (∀ σ' H', N σ' H' → ∃ m', m' < m ∧ W (i + 1) m' σ' H') ∧ ∀ v H', (ItnM K a).yld i H v H' → g v σ H' fun σ2 H2 => tb { D with nx := N, ct := N, bk := D.nx } σ2 H2) := by
  refine ⟨fun i m σ H => m + i = xs.length ∧ Pv i σ H, ⟨xs.length, rfl, h0⟩, ?_⟩
  rintro i m σ H ⟨hm, hP⟩
  have tup := hq i σ H hP
  cases m with
  | zero =>
    obtain rfl : i = xs.length := by omega
    exact .inl ⟨⟨xs, tup, rfl⟩, last σ H hP⟩
  | succ m =>
    refine .inr ⟨⟨xs, tup, by omega⟩, Pv (i + 1), fun σ' H' hP' => ⟨m, by omega, by omega, hP'⟩, ?_⟩
    rintro v H' ⟨T, x, hT, rfl, rfl, at_⟩
    exact turn i x T σ H (at_ xs tup) hP hT
theorem pi_enumE {X : Cx} (K : PySem.W.Frag) {e : Expr} {ta : TA} {p pos tpos : Pos} {elts : List Expr} {kk : Nat} (hg : Gl X "enumerate") (hm : X.mg "enumerate" = none) (ha : PA X [e] ta) (hK : X.K = K := by rfl) (hs : starEach [e] X.env = [(false, eval e X.env)] := by rfl) :
    PI X (.Tuple elts kk tpos) (.Call (.Name "enumerate" p) [e] [] pos) (iEnum K ta) := by
  rw [← hK]
  exact pi_enum hg hm ha hs
end NV
/-! D10 -/
set_option Elab.async false
set_option linter.all false
set_option maxRecDepth 100000
set_option maxHeartbeats 400000
namespace NV
open PySem PySem.Spec PyProof.Rows L2
open C8 (pss_cut)
theorem tup_kind {H : Hp} {a b : Addr} {xs : List V} {o : HO} (h : H a = some (.tup xs)) (h' : H b = some o) (n : ∀ ys, o ≠ .tup ys) : a ≠ b := fun e => by
  rw [e, h'] at h
  exact n xs (Option.some.inj h)
/-- pick of [1, 1, 2, 3] -/
theorem pick_most {j : Nat} {v : V} (h : ([V.int 1, V.int 1, V.int 2, V.int 3] : List V)[j]? = some v) : ∃ m : Nat, v = .int m ∧ 1 ≤ m ∧ m ≤ 3 := by
  match j, h with
  | 0, h => exact ⟨1, (Option.some.inj h).symm, by decide, by decide⟩
  | 1, h => exact ⟨1, (Option.some.inj h).symm, by decide, by decide⟩
  | 2, h => exact ⟨2, (Option.some.inj h).symm, by decide, by decide⟩
  | 3, h => exact ⟨3, (Option.some.inj h).symm, by decide, by decide⟩
  | j + 4, h => simp at h
theorem strs_rp {ex : List Addr} {H : Hp} {p : Addr} {zs : List Str} (hp : p ∉ ex) (h : H p = some (.tup (zs.map V.str))) : Rp ex H (.tuple (zs.map .str)) (.ref p) := ⟨p, _, rfl, hp, h, RpAll.strs zs⟩

abbrev sLawLog : Stmt := topS 50
theorem scLawLog : FnScope ["draw", "many", "cells", "found", "name", "reads", "writes"] ["draw", "many", "cells"] (defScope sLawLog) := ⟨rfl, rfl, rfl, by decide +kernel, rfl, by decide +kernel, by decide +kernel⟩
/-- a log that is drawn; whose words its ids and cells are -/
def spLogF (K : PySem.W.Frag) : Sp := fun vs H Q _ => ∃ (D : Dr) (n many : Nat) (c : Addr) (zs : List Str) (ex : List Addr), vs = [.ref D.d, .int many, .ref c] ∧ many ≤ 62 ∧ H c = some (.lst (zs.map V.str)) ∧ c ∉ D.all ∧ Asc zs ∧ (∀ z ∈ zs, cellB z = true) ∧ 1 ≤ zs.length ∧ zs.length < 64 ∧
  (∀ b ∈ D.ex, b ∈ ex) ∧ Live ex H ∧ DrAt D (n + (1 + 14 * many)) H ∧
  ∀ (es : List Ent) (p : Addr) (H' : Hp), LogOk es → (∀ e ∈ es, e.id ∈ idAll ∧ ∀ c ∈ e.rs ++ e.ws, c ∈ zs) → es.length = many → Rp ex H' (logD es) (.ref p) → Kp D.ex H H' → DrAt D n H' → Q (.ref p) H'
def spLog (K : PySem.W.Frag) : Sp := fun vs H Q _ => ∃ (D : Dr) (n many : Nat) (c : Addr) (zs : List Str) (ex : List Addr), vs = [.ref D.d, .int many, .ref c] ∧ many ≤ 62 ∧ H c = some (.lst (zs.map V.str)) ∧ c ∉ D.all ∧ Asc zs ∧ (∀ z ∈ zs, cellB z = true) ∧ 1 ≤ zs.length ∧ zs.length < 64 ∧
  (∀ b ∈ D.ex, b ∈ ex) ∧ Live ex H ∧ DrAt D (n + (1 + 14 * many)) H ∧
  ∀ (es : List Ent) (p : Addr) (H' : Hp), LogOk es → es.length = many → Rp ex H' (logD es) (.ref p) → Kp D.ex H H' → DrAt D n H' → Q (.ref p) H'
section
variable {P : Program} {w : World} {K : PySem.W.Frag} {mg : Str → Option Value} {base : Heap}
theorem ok_logF (DLawLog : Fn K mg "_law_log" sLawLog ["draw", "many", "cells"]) (DLawTake : Fn K mg "_law_take" sLawTake ["draw", "size"]) (DLawPick : Fn K mg "_law_pick" sLawPick ["draw", "some"]) (DLawPrice : Fn K mg "_law_price" sLawPrice ["draw"])
    (DLawSome : Fn K mg "_law_some" sLawSome ["draw", "things", "least", "most"]) (DLawIds : Fn K mg "_law_ids" sLawIds ["draw", "many"]) (b_tuple : mg "tuple" = none)
    (GLawTake : FnOk P w K mg base CX0 2 DLawTake.f DLawTake.fd ["draw", "size"] spTake) (GLawPick : FnOk P w K mg base CX0 3 DLawPick.f DLawPick.fd ["draw", "some"] (spPick K)) (GLawPrice : FnOk P w K mg base CX0 4 DLawPrice.f DLawPrice.fd ["draw"] spPrice)
    (GLawSome : FnOk P w K mg base CX0 3 DLawSome.f DLawSome.fd ["draw", "things", "least", "most"] (spSome K)) (GLawIds : FnOk P w K mg base CX0 3 DLawIds.f DLawIds.fd ["draw", "many"] spIds) :
    FnOk P w K mg base CX0 5 DLawLog.f DLawLog.fd ["draw", "many", "cells"] (spLogF K) := by
  refine DLawLog.F.ok scLawLog (fun vs H Q E h => ?_) (fun cdv A outer s H vs Q E hr h => ?_)
  · obtain ⟨D, n, many, c, zs, ex, rfl, _⟩ := h
    rfl
  obtain ⟨D, n, many, c, zs, ex, rfl, hm, hS, hc, hasc, hcell, hz1, hz64, hex, hlive, hD, q⟩ := h
  refine ⟨_, pss_cons (ps_set (i := 3) scLawLog.nd rfl (.inl rfl) (pe_lst pa_nil))
      (pss_cons (ps_for PassesOwn.never rfl (piListE K (pe_fn DLawIds GLawIds hr (pa_cons (pv 0) (pa_cons (pv 1) pa_nil)))) (pg_name (i := 4) scLawLog.nd rfl (.inl rfl))
      (pss_one (ps_if (pt_cmpR op_eq (pe_fn DLawTake GLawTake hr (pa_cons (pv 0) (pa_cons pe_int pa_nil))) pe_int (nomark _))
      (pss_one (ps_expr (bmE K PySem.F.plainAttrs_list PySem.F.slot_list_append PySem.F.type_list_append mt_append (pv 3) (pa_cons (pe_tup (pa_cons pe_str (pa_cons (pv 4) (pa_cons (pe_fn DLawSome GLawSome hr (pa_cons (pv 0) (pa_cons (pv 2) (pa_cons pe_int (pa_cons pe_int pa_nil))))) pa_nil)))) pa_nil))))
      (pss_cons (ps_set (i := 5) scLawLog.nd rfl (.inl rfl) (pe_fn DLawSome GLawSome hr (pa_cons (pv 0) (pa_cons (pv 2) (pa_cons pe_int (pa_cons (pe_fn DLawPick GLawPick hr (pa_cons (pv 0) (pa_cons (pe_lst (pa_cons pe_int (pa_cons pe_int (pa_cons pe_int (pa_cons pe_int pa_nil))))) pa_nil))) pa_nil))))))
      (pss_cons (ps_set (i := 6) scLawLog.nd rfl (.inl rfl) (pe_fn DLawSome GLawSome hr (pa_cons (pv 0) (pa_cons (pv 2) (pa_cons pe_int (pa_cons (pe_fn DLawPick GLawPick hr (pa_cons (pv 0) (pa_cons (pe_lst (pa_cons pe_int (pa_cons pe_int (pa_cons pe_int (pa_cons pe_int pa_nil))))) pa_nil))) pa_nil))))))
      (pss_one (ps_expr (bmE K PySem.F.plainAttrs_list PySem.F.slot_list_append PySem.F.type_list_append mt_append (pv 3) (pa_cons (pe_tup (pa_cons pe_str (pa_cons (pv 4) (pa_cons (pv 5) (pa_cons (pv 6) (pa_cons (pe_fn DLawPrice GLawPrice hr (pa_cons (pv 0) pa_nil)) pa_nil)))))) pa_nil)))))))))
      (pss_one (ps_ret (pe_callTy call_tuple_of (by rfl) b_tuple (by decide +kernel) (pa_cons (pv 3) pa_nil))))), ?_⟩
  -- found = []
  refine ⟨Nat.zero_le _, fun fo hfo => ?_⟩
  have nfo := hD.fresh hfo
  have nfe : fo ∉ ex := hlive.fresh hfo
  have k1 : Kp [] H (upd H fo (.lst [])) := Kp.laid hfo
  have e1 : upd H fo (.lst []) fo = some (.lst []) := upd_same
  have d1 := hD.keep k1
  generalize upd H fo (.lst []) = H1 at k1 e1 d1 ⊢
  -- the ids
  refine ⟨_, rfl, _, rfl, D, n + 13 * many, many, rfl, hm, d1.less (by omega), fun ids pI H2 hids hlen nI eI k2 d2 => ?_⟩
  have k12 : Kp D.ex H H2 := (k1.mono (by simp)).trans k2
  have nIfo : pI ≠ fo := fun z => by rw [z, e1] at nI; cases nI
  have ef2 := k2 _ _ (Dr.sub nfo) e1
  have hS2 := k12 _ _ (Dr.sub hc) hS
  have live2 : Live (fo :: ex) H2 := fun b hb => by
    rcases List.mem_cons.mp hb with z | z
    · rw [z, ef2]; exact fun q => nomatch q
    · exact (hlive.keep k12 d2) b z
  have cfo : c ≠ fo := ne_of_none hS hfo
  refine ⟨pI, rfl, ⟨_, SqL.of eI⟩, for_list (K := K) (a := pI) (xs := ids.map V.str) (fun i σ H' => ∃ (v4 v5 v6 : Option V) (es : List Ent) (xs : List V), σ = [some (.ref D.d), some (.int many), some (.ref c), some (.ref fo), v4, v5, v6] ∧ es.map Ent.id = ids.take i ∧ (∀ e ∈ es, e.Ok ∧ ∀ c ∈ e.rs ++ e.ws, c ∈ zs) ∧
      H' fo = some (.lst xs) ∧ RpAll (fo :: ex) H' (es.map Ent.data) xs ∧ Kp (fo :: D.ex) H2 H' ∧ DrAt D (n + 13 * (many - i)) H') ?_ ?_ ?_ ?_⟩
  · exact ⟨none, none, none, [], [], rfl, rfl, fun e he => by simp at he, ef2, rfl, Kp.refl, d2⟩
  · rintro i σ H' hi ⟨v4, v5, v6, es, xs, rfl, h1, h2, h3, h4, k3, d3⟩
    refine SqL.of (k3 pI _ (fun z => ?_) eI)
    rcases List.mem_cons.mp z with z | z
    · exact nIfo z
    · exact Dr.sub (d1.fresh nI) z
  · rintro i y σ H' hi ⟨v4, v5, v6, es, xs, rfl, h1, h2, h3, h4, k3, d3⟩
    have hi' : i < ids.length := by
      have := (List.getElem?_eq_some_iff.mp hi).1
      rw [List.length_map] at this
      exact this
    have ey : y = .str ids[i] := by
      rw [List.getElem?_map, List.getElem?_eq_getElem hi'] at hi
      exact (Option.some.inj hi).symm
    subst ey
    have hid : idB ids[i] = true := hids.ok _ (List.getElem_mem hi')
    have htk : ids.take (i + 1) = ids.take i ++ [ids[i]] := by rw [List.take_add_one, List.getElem?_eq_getElem hi']; rfl
    have him : i < many := by omega
    have hes : es.length = i := by
      have := congrArg List.length h1
      rw [List.length_map, List.length_take] at this
      omega
    have hxl : xs.length = i := by rw [← h4.len, List.length_map, hes]
    obtain ⟨N, hN⟩ : ∃ N, N = n + 13 * (many - (i + 1)) := ⟨_, rfl⟩
    have d3' : DrAt D (N + 13) H' := d3.less (by omega)
    have kx : ∀ {A B : Hp}, Kp D.ex A B → Kp (fo :: D.ex) A B := fun k => k.mono fun b hb => List.mem_cons_of_mem _ hb
    have sub' : ∀ b ∈ D.ex, b ∈ fo :: ex := fun b hb => List.mem_cons_of_mem _ (hex b hb)
    -- one more entry
    have more : ∀ (e : Ent) (a : Addr) (H4 : Hp) (v5 v6 : Option V), e.id = ids[i] → (e.Ok ∧ ∀ c ∈ e.rs ++ e.ws, c ∈ zs) → Kp D.ex H' H4 → DrAt D N H4 → Rp (fo :: ex) H4 e.data (.ref a) →
        (∃ (v4 v5' v6' : Option V) (es' : List Ent) (xs' : List V), [some (V.ref D.d), some (.int many), some (.ref c), some (.ref fo), some (.str ids[i]), v5, v6] = [some (V.ref D.d), some (.int many), some (.ref c), some (.ref fo), v4, v5', v6'] ∧ es'.map Ent.id = ids.take (i + 1) ∧ (∀ e ∈ es', e.Ok ∧ ∀ c ∈ e.rs ++ e.ws, c ∈ zs) ∧
          (upd H4 fo (.lst (xs ++ [.ref a]))) fo = some (.lst xs') ∧ RpAll (fo :: ex) (upd H4 fo (.lst (xs ++ [.ref a]))) (es'.map Ent.data) xs' ∧ Kp (fo :: D.ex) H2 (upd H4 fo (.lst (xs ++ [.ref a]))) ∧ DrAt D (n + 13 * (many - (i + 1))) (upd H4 fo (.lst (xs ++ [.ref a])))) := by
      intro e a H4 v5 v6 he hok k4 d4 r4
      have kp : Kp (fo :: ex) H4 (upd H4 fo (.lst (xs ++ [.ref a]))) := Kp.put List.mem_cons_self
      have kfe : Kp (fo :: ex) H' H4 := k4.mono sub'
      refine ⟨_, _, _, es ++ [e], xs ++ [.ref a], rfl, ?_, fun e' he' => ?_, upd_same, ?_, (k3.trans (kx k4)).trans (Kp.put List.mem_cons_self), by rw [← hN]; exact d4.upd nfo⟩
      · rw [List.map_append, h1, htk, ← he]; rfl
      · rcases List.mem_append.mp he' with z | z
        · exact h2 e' z
        · rw [List.mem_singleton.mp z]; exact hok
      · rw [List.map_append]
        exact (RpAll.keep (kfe.trans kp) _ _ h4).app (RpAll.one (Rp.keep kp _ _ r4))
    have live3 : Live (fo :: ex) H' := fun b hb => by
      rcases List.mem_cons.mp hb with z | z
      · rw [z, h3]; exact fun q => nomatch q
      · intro q
        have : H2 b ≠ none := live2 b (List.mem_cons_of_mem _ z)
        cases e : H2 b with
        | none => exact this e
        | some o =>
          by_cases w : b ∈ fo :: D.ex
          · rcases List.mem_cons.mp w with w | w
            · rw [w, h3] at q; cases q
            · exact absurd w (Dr.sub (d3.fresh q))
          · rw [k3 b o w e] at q; cases q
    have hcS : H' c = some (.lst (zs.map V.str)) := k3 c _ (fun z => by
      rcases List.mem_cons.mp z with z | z
      · exact cfo z
      · exact Dr.sub hc z) hS2
    -- take(draw, 5)
    refine ⟨_, rfl, D, N + 12, 5, rfl, by decide, by decide, d3', fun t H4 t0 t1 k4 d4 => ⟨rfl, _, rfl, ite2 (fun cc => ?_) (fun cc => ?_)⟩⟩
    · -- a query
      have h3' := k4 _ _ (Dr.sub nfo) h3
      refine ⟨_, rfl, .inl ⟨rfl, _, SqL.of h3'⟩, _, rfl, _, rfl, _, rfl, D, N, c, zs, 1, 3, rfl, SqL.of (k4 _ _ (Dr.sub hc) hcS), hc, hz64, by decide, by decide, d4.less (by omega), fun ys p H5 hys hya hyl hyh np ep k5 d5 => ?_⟩
      refine ⟨by show 3 ≤ sizeLine; decide, fun a na => ?_⟩
      have live4 := live3.keep k4 d4
      have pfe : p ∉ fo :: ex := live4.fresh np
      have live5 := live4.keep k5 d5
      have afe : a ∉ fo :: ex := live5.fresh na
      have hco : CellsOk 1 ys := ⟨hya hasc.nodup, fun y hy => hcell y (hys y hy), by omega, hyh⟩
      have afo : a ≠ fo := fun z => afe (by rw [z]; exact List.mem_cons_self)
      have h3'' : (upd H5 a (.tup [.str "query", .str ids[i], .ref p])) fo = some (.lst xs) := by rw [upd_ne afo.symm]; exact k5 _ _ (Dr.sub nfo) h3'
      refine ⟨fo, xs, .ref a, rfl, rfl, h3'', small1000 (by omega), ?_⟩
      refine more (.qu ids[i] ys) a _ _ _ rfl ⟨⟨hid, hco⟩, fun c hc => hys c ((List.mem_append.mp hc).elim id fun h => nomatch h)⟩ ((k4.trans k5).trans (Kp.laid na)) (d5.keep (Kp.laid na)) ⟨a, _, rfl, afe, upd_same, _, _, rfl, rfl, _, _, rfl, rfl, _, _, rfl, ?_, rfl⟩
      exact strs_rp pfe (by rw [upd_ne (ne_of_none ep na)]; exact ep)
    · -- a write: what it reads
      refine ⟨_, rfl, _, rfl, _, rfl, by show 4 ≤ sizeLine; decide, fun l1 nl1 => ?_⟩
      have d4a : DrAt D (N + 11 + 1) (upd H4 l1 (.lst [V.int 1, V.int 1, V.int 2, V.int 3])) := d4.keep (Kp.laid nl1)
      refine ⟨D, N + 11, l1, _, rfl, SqL.of upd_same, by show 0 < 4; decide, by show 4 < 1073741824; decide, Dr.sub (d4.fresh nl1), d4a, fun j v H5 hj k5 d5 => ?_⟩
      obtain ⟨m, rfl, m1, m3⟩ := pick_most hj
      have k45 : Kp D.ex H' H5 := k4.trans ((Kp.laid nl1).trans k5)
      refine ⟨D, N + 7, c, zs, 0, m, rfl, SqL.of (k45 _ _ (Dr.sub hc) hcS), hc, hz64, by omega, by omega, d5.less (by omega), fun rs p1 H6 hrs hra hrl hrh np1 ep1 k6 d6 => ?_⟩
      have k46 := k45.trans k6
      have live5 := live3.keep k45 d5
      have p1fe : p1 ∉ fo :: ex := live5.fresh np1
      -- what it writes
      refine ⟨_, rfl, _, rfl, _, rfl, by show 4 ≤ sizeLine; decide, fun l2 nl2 => ?_⟩
      have d6a : DrAt D (N + 6 + 1) (upd H6 l2 (.lst [V.int 1, V.int 1, V.int 2, V.int 3])) := d6.keep (Kp.laid nl2)
      refine ⟨D, N + 6, l2, _, rfl, SqL.of upd_same, by show 0 < 4; decide, by show 4 < 1073741824; decide, Dr.sub (d6.fresh nl2), d6a, fun j2 v2 H7 hj2 k7 d7 => ?_⟩
      obtain ⟨m2, rfl, m21, m23⟩ := pick_most hj2
      have k67 : Kp D.ex H6 H7 := (Kp.laid nl2).trans k7
      have k47 := k46.trans k67
      refine ⟨D, N + 2, c, zs, 1, m2, rfl, SqL.of (k47 _ _ (Dr.sub hc) hcS), hc, hz64, by omega, by omega, d7.less (by omega), fun ws p2 H8 hws hwa hwl hwh np2 ep2 k8 d8 => ?_⟩
      have k48 := k47.trans k8
      have live7 := live3.keep k47 d7
      have p2fe : p2 ∉ fo :: ex := live7.fresh np2
      have h3' := k48 _ _ (Dr.sub nfo) h3
      -- the price, and the entry
      refine ⟨_, rfl, .inl ⟨rfl, _, SqL.of h3'⟩, _, rfl, _, rfl, _, rfl, _, rfl, D, N, rfl, d8, fun pr H9 hpr k9 d9 => ?_⟩
      refine ⟨by show 5 ≤ sizeLine; decide, fun a na => ?_⟩
      have k49 := k48.trans k9
      have live9 := live3.keep k49 d9
      have afe : a ∉ fo :: ex := live9.fresh na
      have afo : a ≠ fo := fun z => afe (by rw [z]; exact List.mem_cons_self)
      have h9 := k9 _ _ (Dr.sub nfo) h3'
      have h3'' : (upd H9 a (.tup [.str "write", .str ids[i], .ref p1, .ref p2, prV pr])) fo = some (.lst xs) := by rw [upd_ne afo.symm]; exact h9
      have e1' := (k67.trans (k8.trans k9)) _ _ (fun z => p1fe (sub' _ z)) ep1
      have e2' := k9 _ _ (fun z => p2fe (sub' _ z)) ep2
      have hcr : CellsOk 0 rs := ⟨hra hasc.nodup, fun y hy => hcell y (hrs y hy), Nat.zero_le _, by omega⟩
      have hcw : CellsOk 1 ws := ⟨hwa hasc.nodup, fun y hy => hcell y (hws y hy), by omega, by omega⟩
      refine ⟨fo, xs, .ref a, rfl, rfl, h3'', small1000 (by omega), ?_⟩
      refine more (.wr ids[i] rs ws pr) a _ _ _ rfl ⟨⟨hid, hcr, hcw, hpr⟩, fun c hc => (List.mem_append.mp hc).elim (hrs c) (hws c)⟩ (k49.trans (Kp.laid na)) (d9.keep (Kp.laid na)) ⟨a, _, rfl, afe, upd_same, _, _, rfl, rfl, _, _, rfl, rfl, _, _, rfl, ?_, _, _, rfl, ?_, _, _, rfl, prV_rp pr, rfl⟩
      · exact strs_rp p1fe (by rw [upd_ne (ne_of_none e1' na)]; exact e1')
      · exact strs_rp p2fe (by rw [upd_ne (ne_of_none e2' na)]; exact e2')
  · rintro σ H' ⟨v4, v5, v6, es, xs, rfl, h1, h2, h3, h4, k3, d3⟩
    rw [List.length_map, hlen, List.take_of_length_le (Nat.le_of_eq hlen)] at h1
    refine ⟨_, rfl, fo, xs, rfl, .inl ⟨SqL.of h3, fun p np => ?_⟩⟩
    have kH : Kp D.ex H H' := ((k12.mono fun b hb => List.mem_cons_of_mem _ hb).trans k3).drop hfo
    have lv := hlive.keep kH d3
    refine q es p _ ⟨fun e he => (h2 e he).1, by rw [h1]; exact hids.nd⟩ (fun e he => ⟨hids.far e.id (by rw [← h1]; exact List.mem_map.mpr ⟨e, he, rfl⟩), (h2 e he).2⟩) ?_ ⟨p, xs, rfl, lv.fresh np, upd_same, ?_⟩ (kH.trans (Kp.laid np)) ((d3.less (by omega)).keep (Kp.laid np))
    · have := congrArg List.length h1
      rw [List.length_map] at this
      omega
    · exact (RpAll.keep (Kp.laid np) _ _ h4).less fun b hb => List.mem_cons_of_mem _ hb
theorem ok_log (DLawLog : Fn K mg "_law_log" sLawLog ["draw", "many", "cells"]) (DLawTake : Fn K mg "_law_take" sLawTake ["draw", "size"]) (DLawPick : Fn K mg "_law_pick" sLawPick ["draw", "some"]) (DLawPrice : Fn K mg "_law_price" sLawPrice ["draw"])
    (DLawSome : Fn K mg "_law_some" sLawSome ["draw", "things", "least", "most"]) (DLawIds : Fn K mg "_law_ids" sLawIds ["draw", "many"]) (b_tuple : mg "tuple" = none)
    (GLawTake : FnOk P w K mg base CX0 2 DLawTake.f DLawTake.fd ["draw", "size"] spTake) (GLawPick : FnOk P w K mg base CX0 3 DLawPick.f DLawPick.fd ["draw", "some"] (spPick K)) (GLawPrice : FnOk P w K mg base CX0 4 DLawPrice.f DLawPrice.fd ["draw"] spPrice)
    (GLawSome : FnOk P w K mg base CX0 3 DLawSome.f DLawSome.fd ["draw", "things", "least", "most"] (spSome K)) (GLawIds : FnOk P w K mg base CX0 3 DLawIds.f DLawIds.fd ["draw", "many"] spIds) :
    FnOk P w K mg base CX0 5 DLawLog.f DLawLog.fd ["draw", "many", "cells"] (spLog K) :=
  (ok_logF DLawLog DLawTake DLawPick DLawPrice DLawSome DLawIds b_tuple GLawTake GLawPick GLawPrice GLawSome GLawIds).imp fun vs H Q E h => by
    obtain ⟨D, n, many, c, zs, ex, h1, h2, h3, h4, h5, h6, h7, h8, h9, h10, h11, q⟩ := h
    exact ⟨D, n, many, c, zs, ex, h1, h2, h3, h4, h5, h6, h7, h8, h9, h10, h11, fun es p H' a _ => q es p H' a⟩
end
end NV
/-! D11 -/
set_option Elab.async false
set_option linter.all false
set_option maxRecDepth 100000
set_option maxHeartbeats 400000
namespace NV
open PySem PySem.Spec PyProof.Rows L2
open C8 (pss_cut)
theorem SqL.upd_new {K : PySem.W.Frag} {H : Hp} {a C : Addr} {xs : List V} {o : HO} (h : SqL K H a xs) (nC : H C = none) : SqL K (upd H C o) a xs := Kp.seqL (ex := []) (Kp.laid nC) (by simp) h
theorem SqL.upd_two {K : PySem.W.Frag} {H : Hp} {a C : Addr} {xs : List V} {o u : HO} (h : SqL K H a xs) (nC : H C = none) : SqL K (upd (upd H C o) C u) a xs := by
  rw [upd_upd]; exact SqL.upd_new h nC
/-- a comprehension over a list whose test and element change nothing -/
theorem lc_pureL {K : PySem.W.Frag} {tt : TT} {te : TE} {i : Nat} {σ : L2.St} {C a : Addr} {xs : List V} {H1 : Hp} {Qd : Hp → Prop} (p : V → Bool) (f : V → V) (hS : SqL K H1 a xs) (nC : H1 C = none) (hz : xs.length < 1000)
    (htt : ∀ (x : V) (H : Hp) (Q : Bool → Hp → Prop), x ∈ xs → SqL K H a xs → Q (p x) H → tt ((wipe σ [i]).set i (some x)) H Q)
    (hte : ∀ (x : V) (H : Hp) (Q : V → Hp → Prop), x ∈ xs → SqL K H a xs → p x = true → Q (f x) H → te ((wipe σ [i]).set i (some x)) H Q) (hd : Qd (upd H1 C (.lst ((xs.filter p).map f)))) :
    ∃ W : Nat → Nat → Hp → Prop, (∃ m, W 0 m (upd H1 C (.lst []))) ∧ ∀ i' m H, W i' m H →
      ((Itl K a).stop i' H ∧ Qd H) ∨ ((Itl K a).go i' H ∧ ∃ Nx : Hp → Prop, (∀ H', Nx H' → ∃ m', m' < m ∧ W (i' + 1) m' H') ∧ ∀ x H', (Itl K a).yld i' H x H' → gName i x (wipe σ [i]) H' fun σ2 H2 => wipe σ2 [i] = wipe σ [i] ∧ tt σ2 H2 fun b H3 =>
        if b = true then te σ2 H3 fun y H4 => ∃ acc, H4 C = some (.lst acc) ∧ acc.length < sizeLine ∧ Nx (upd H4 C (.lst (acc ++ [y]))) else Nx H3) := by
  refine lc_list (K := K) (a := a) (xs := xs) (fun j H' => H' = upd H1 C (.lst (((xs.take j).filter p).map f))) rfl (fun j H' _ e => by rw [e]; exact SqL.upd_new hS nC) (fun j x H' hx e => ?_) (fun H' e => by rw [e, List.take_length]; exact hd)
  subst e
  have hm : x ∈ xs := List.mem_of_getElem? hx
  have htk : xs.take (j + 1) = xs.take j ++ [x] := by rw [List.take_add_one, hx]; rfl
  refine ⟨wipe_again, ?_⟩
  refine htt x _ _ hm (SqL.upd_new hS nC) ?_
  cases hp : p x with
  | true =>
    change te ((wipe σ [i]).set i (some x)) _ _
    refine hte x _ _ hm (SqL.upd_new hS nC) hp ⟨_, upd_same, ?_, ?_⟩
    · have h1 : ((xs.take j).filter p).length ≤ (xs.take j).length := List.length_filter_le _ _
      rw [List.length_take] at h1
      rw [List.length_map]
      exact small1000 (by omega)
    · rw [upd_upd, htk, List.filter_append, List.map_append, List.filter_cons_of_pos hp]
      rfl
  | false =>
    change upd H1 C _ = upd H1 C _
    rw [htk, List.filter_append, List.filter_cons_of_neg (by rw [hp]; exact Bool.false_ne_true)]
    simp
theorem cut_to (xs : List V) (k : Nat) : cutV xs none (some (k : Int)) = xs.take k := by
  unfold cutV
  rw [HT.sIx_none, HT.sIx_nat]
  rw [List.drop_zero, Nat.sub_zero, ← List.take_eq_take_min]
theorem filter_all {α : Type} (l : List α) : l.filter (fun _ => true) = l := by simp
def iAbs : V → V
  | .int i => .int (if i < 0 then -i else i)
  | v => v
def iBig : V → Bool
  | .int i => decide ((10 : Int) ^ 18 ≤ i)
  | _ => false

abbrev sLawBegin : Stmt := topS 42
theorem scLawBegin : FnScope ["script", "items", "item"] ["script"] (defScope sLawBegin) := ⟨rfl, rfl, rfl, by decide +kernel, rfl, by decide +kernel, by decide +kernel⟩
def spBegin (K : PySem.W.Frag) : Sp := fun vs H Q _ => ∃ (a : Addr) (ns : List Int), vs = [.ref a] ∧ SqL K H a (ns.map V.int) ∧ ns.length ≤ 63 ∧ ∀ (D : Dr) (H' : Hp), Kp [] H H' → H D.d = none → H D.l = none → H D.it = none → DrAt D 1000000000 H' → Q (.ref D.d) H'
section
variable {P : Program} {w : World} {K : PySem.W.Frag} {mg : Str → Option Value} {base : Heap}
theorem ok_begin (DLawBegin : Fn K mg "_law_begin" sLawBegin ["script"]) (b_abs : mg "abs" = none) : FnOk P w K mg base CX0 1 DLawBegin.f DLawBegin.fd ["script"] (spBegin K) := by
  refine DLawBegin.F.ok scLawBegin (fun vs H Q E h => ?_) (fun cdv A outer s H vs Q E hr h => ?_)
  · obtain ⟨a, ns, rfl, _⟩ := h
    rfl
  obtain ⟨a, ns, rfl, hS, h63, q⟩ := h
  refine ⟨_, pss_cons (ps_setLc (i := 1) (own := [("item", 2)]) (g := gName 2) (tt := tYes) (by rfl) scLawBegin.nd rfl rfl (sw_true rfl rfl rfl (by decide +kernel)) (piListE K (pe_slice (sllE K) (pv 0) po_none (po_some pe_int))) (blkOk_by (N := ["script", "items", "item"]) (sc := defScope sLawBegin) (by decide +kernel)) (fun _ _ _ _ _ => (pg_name (i := 2) scLawBegin.nd rfl (.inl rfl))) (fun _ _ _ _ _ => pts_nil) (fun _ _ _ _ _ => (pe_callB call_abs (by rfl) b_abs (by decide +kernel) (pa_cons (pv 2) pa_nil))))
      (pss_one (ps_ret (pe_disp (pps_cons pe_str (pe_lc (own := [("item", 2)]) (g := gName 2) (by rfl) scLawBegin.nd (piListE K (pv 1)) (blkOk_by (N := ["script", "items", "item"]) (sc := defScope sLawBegin) (by decide +kernel)) (fun _ _ _ _ _ => (pg_name (i := 2) scLawBegin.nd rfl (.inl rfl))) (fun _ _ _ _ _ => (pts_one (pt_cmpR op_ge (pv 2) (pe_op op_pow pe_int pe_int) (nomark _)))) (fun _ _ _ _ _ => (pv 2))) (pps_cons pe_str (pv 1) (pps_cons pe_str pe_int (pps_cons pe_str pe_int pps_nil)))) (by rfl) (by rfl) (fun z => by cases z) (by decide)))), ?_⟩
  refine ⟨_, rfl, 63, rfl, a, _, rfl, hS, fun p hp => ?_⟩
  rw [show (some (63 : Int)) = some ((63 : Nat) : Int) from rfl, cut_to, List.take_of_length_le (by rw [List.length_map]; exact h63)]
  have k1 : Kp [] H (upd H p (.lst (ns.map V.int))) := Kp.laid hp
  have e1 : SqL K (upd H p (.lst (ns.map V.int))) p (ns.map V.int) := SqL.of upd_same
  generalize upd H p (.lst (ns.map V.int)) = H1 at k1 e1 ⊢
  refine ⟨p, rfl, ⟨_, e1⟩, fun C nC => ?_⟩
  refine lc_pureL (fun _ => true) iAbs e1 nC (by rw [List.length_map]; omega) (fun x H2 Q2 _ _ q2 => q2) (fun x H2 Q2 hx _ _ q2 => ?_) ?_
  · obtain ⟨z, hz, rfl⟩ := List.mem_map.mp hx
    exact ⟨_, rfl, z, rfl, q2⟩
  rw [filter_all]
  have eA : (ns.map V.int).map iAbs = (ns.map fun i => if i < 0 then -i else i).map V.int := by rw [List.map_map, List.map_map]; rfl
  rw [eA]
  generalize hms : (ns.map fun i => if i < 0 then -i else i) = ms
  have ml : ms.length = ns.length := by rw [← hms, List.length_map]
  have mp : ∀ x ∈ ms, 0 ≤ x := fun x hx => by
    rw [← hms] at hx
    obtain ⟨z, _, rfl⟩ := List.mem_map.mp hx
    split <;> omega
  have k2 : Kp [] H1 (upd H1 C (.lst (ms.map V.int))) := Kp.laid nC
  have e2 : upd H1 C (.lst (ms.map V.int)) C = some (.lst (ms.map V.int)) := upd_same
  generalize upd H1 C (.lst (ms.map V.int)) = H2 at k2 e2 ⊢
  -- the dict
  refine fun d nd => ?_
  have k3 : Kp [] H2 (upd H2 d (.dK [])) := Kp.laid nd
  have e3 : upd H2 d (.dK []) d = some (.dK []) := upd_same
  generalize upd H2 d (.dK []) = H3 at k3 e3 ⊢
  have e2' := k3 _ _ (by simp) e2
  refine ⟨_, rfl, C, rfl, ⟨_, SqL.of e2'⟩, fun L nL => ?_⟩
  refine lc_pureL iBig id (SqL.of e2') nL (by rw [List.length_map]; omega) (fun x H4 Q4 hx _ q4 => ?_) (fun x H4 Q4 hx _ _ q4 => ⟨_, rfl, q4⟩) ?_
  · obtain ⟨z, hz, rfl⟩ := List.mem_map.mp hx
    refine ⟨_, rfl, 10, 18, rfl, rfl, ⟨by decide, by decide, by decide⟩, z, _, rfl, rfl, _, rfl, ?_⟩
    exact q4
  have eB : ((ms.map V.int).filter iBig).map id = (ms.filter fun i => decide ((10 : Int) ^ 18 ≤ i)).map V.int := by
    rw [List.map_id, List.filter_map]
    rfl
  rw [eB]
  generalize hbs : (ms.filter fun i => decide ((10 : Int) ^ 18 ≤ i)) = bs
  have bp : ∀ x ∈ bs, 0 ≤ x := fun x hx => by
    rw [← hbs] at hx
    exact mp x (List.mem_filter.mp hx).1
  have nLd : L ≠ d := fun z => by rw [z, e3] at nL; cases nL
  have nLC : L ≠ C := fun z => by rw [z, e2'] at nL; cases nL
  have nCd : C ≠ d := fun z => by rw [z, nd] at e2; cases e2
  have e3' : (upd H3 L (.lst (bs.map V.int))) d = some (.dK []) := by rw [upd_ne nLd.symm]; exact e3
  refine ⟨_, rfl, e3', [(kLarge, .ref L), (kItems, .ref C), (kLeft, .int 0), (kTurn, .int 0)], rfl, by show 4 ≤ 15; decide, ?_⟩
  have em : mergeK [] [(kLarge, V.ref L), (kItems, V.ref C), (kLeft, V.int 0), (kTurn, V.int 0)] = drV ⟨d, L, C⟩ 0 0 := by
    obtain ⟨h1, h2, h3, h4, h5, h6⟩ := ne_lk
    simp [mergeK, putK, drV, h1, h2, h3, h4, h5, h6]
  rw [em]
  have none0 : ∀ b, H2 b = none → H b = none := fun b hb => by
    cases e : H b with
    | none => rfl
    | some o => rw [k2 _ _ (by simp) (k1 _ _ (by simp) e)] at hb; cases hb
  refine q ⟨d, L, C⟩ _ ?_ (none0 d nd) (none0 L ?_) ?_ ⟨nLC.symm, bs, ms, 0, 0, upd_same, by rw [upd_ne nLd]; exact upd_same, by rw [upd_ne nCd, upd_ne nLC.symm]; exact e2', ⟨Int.le_refl 0, Int.le_refl 0, by decide⟩, bp, mp⟩
  · intro b o _ e
    have h2 := k2 _ _ (by simp) (k1 _ _ (by simp) e)
    have bd : b ≠ d := ne_of_none h2 nd
    have bL : b ≠ L := ne_of_none (k3 _ _ (by simp) h2) nL
    rw [upd_ne bd, upd_ne bL]
    exact k3 _ _ (by simp) h2
  · cases e : H2 L with
    | none => rfl
    | some o => rw [k3 _ _ (by simp) e] at nL; cases nL
  · cases e : H C with
    | none => rfl
    | some o => rw [k1 _ _ (by simp) e] at nC; cases nC
end
end NV
/-! SetG -/
set_option Elab.async false
set_option linter.all false
set_option maxRecDepth 100000
set_option maxHeartbeats 600000
/-! sets whose members are of any kind of key, with what their walk needs -/
namespace NV
open PySem PySem.Spec PyProof.Rows L2
section
variable {P : Program} {w : World} {κ : Type} [DecidableEq κ] (knd : PySem.KeyKind P w κ) (key : Value → κ)
/-- key reads a member off a value -/
def KeyFn : Prop := ∀ k v, knd.is k v = true → key v = k
def mem (es : Array (Int × Value)) : List κ := es.toList.map fun e => key e.2
/-- the set at a: S its members, n their number -/
def SetG (h : Heap) (a : Addr) (S : κ → Bool) (n : Nat) : Prop :=
  ∃ o es ep t, (h.get? a = some o ∧ o.ExactSet ∧ o.data = .set es ep t) ∧ (ElemsOf knd es.toList ∧ (mem key es).Nodup ∧ ∀ k, S k = true ↔ k ∈ mem key es) ∧
    (es.size < scanBound ∧ t.fits es.size = true ∧ es.size = n) ∧ Ris t.place.toList ∧ (w.params.followText "set-order" = true ∨ t.led = true)
end
section
variable {P : Program} {w : World} {κ : Type} [DecidableEq κ] {knd : PySem.KeyKind P w κ} {key : Value → κ} {h h' : Heap} {a : Addr} {S : κ → Bool} {n : Nat}
theorem SetG.move (R : SetG knd key h a S n) (k : ∀ o, h.get? a = some o → h'.get? a = some o) : SetG knd key h' a S n :=
  let ⟨o, es, ep, t, ⟨ho, r1⟩, r2⟩ := R
  ⟨o, es, ep, t, ⟨k o ho, r1⟩, r2⟩
theorem SetG.sameS {S' : κ → Bool} (R : SetG knd key h a S n) (e : ∀ k, S' k = S k) : SetG knd key h a S' n := by
  rw [show S' = S from funext e]
  exact R
theorem is_iff (hk : KeyFn knd key) {l : List (Int × Value)} (g : ElemsOf knd l) {e : Int × Value} (he : e ∈ l) (k : κ) : knd.is k e.2 = true ↔ key e.2 = k := by
  obtain ⟨⟨k0, h0, _⟩, _⟩ := g e he
  constructor
  · exact hk k e.2
  · intro q
    rw [hk k0 e.2 h0] at q
    rw [← q]
    exact h0
theorem mem_iff (hk : KeyFn knd key) {es : Array (Int × Value)} (g : ElemsOf knd es.toList) (k : κ) : k ∈ mem key es ↔ ∃ e ∈ es.toList, knd.is k e.2 = true := by
  unfold mem
  rw [List.mem_map]
  exact ⟨fun ⟨e, he, q⟩ => ⟨e, he, (is_iff hk g he k).mpr q⟩, fun ⟨e, he, q⟩ => ⟨e, he, (is_iff hk g he k).mp q⟩⟩
theorem SetG.plain (hk : KeyFn knd key) (R : SetG knd key h a S n) : h.SetOf knd a S n :=
  let ⟨o, es, ep, t, ⟨ho, hx, hd⟩, ⟨g, _, hm⟩, ⟨hb, hf, hn⟩, _⟩ := R
  ⟨o, es, ep, t, ho, hx, hd, g, fun k => (hm k).trans (mem_iff hk g k), hb, hf, hn⟩
/-- the empty set just laid -/
theorem SetG.start {o : Obj} (ho : h.get? a = some o) (e : o = { cls := .type "set", dict := none, data := .set #[] 0 (.fresh 0 0 (!w.params.followText "set-order")) }) : SetG knd key h a (fun _ => false) 0 := by
  subst e
  refine ⟨_, #[], 0, _, ⟨ho, ⟨rfl, rfl, rfl⟩, rfl⟩, ⟨fun e he => by simp at he, by simp [mem], fun k => by simp [mem]⟩, ⟨by decide, by rfl, rfl⟩, List.Pairwise.nil, ?_⟩
  cases hq : w.params.followText "set-order"
  · exact .inr rfl
  · exact .inl rfl
end
section
variable {P : Program} {w : World} {κ : Type} [DecidableEq κ] {knd : PySem.KeyKind P w κ} {key : Value → κ} {A : Around} {E : Value → Shared → Prop} {s : Shared} {a : Addr} {S : κ → Bool} {n : Nat}
/-- what is stored, once the member has its place; the table may be laid anew -/
theorem setG_tail {g : Bool → Sem Unit} (hg : ∀ b, ∃ r : Bool, g b = if r then rule "set.scan.the-table-gave-way" else pure ()) {o : Obj} {es es1 : Array (Int × Value)} {ep : Nat} {t t2 : SetTable} {S' : κ → Bool} {wd : Bool} {R : Option Bool → Shared → Prop}
    (ho : s.heap.get? a = some o) (hx : o.ExactSet) (hd : o.data = .set es ep t) (g1 : ElemsOf knd es1.toList) (nd : (mem key es1).Nodup) (hm : ∀ k, S' k = true ↔ k ∈ mem key es1)
    (hb : es1.size < scanBound) (hf : t2.fits es1.size = true) (hr : Ris t2.place.toList) (hl : w.params.followText "set-order" = true ∨ t2.led = true)
    (hR : ∀ h', Heap.SameBut a s.heap h' → SetG knd key h' a S' es1.size → R (some true) { s with heap := h' }) :
    wpAny (model P w) A (do
        storeSet a es1 t2
        if (!wd && t2.tooFull) = true then do
            g (relayAll t2 es1 (SetTable.grown es1.size)).2.2
            storeSet a (relayAll t2 es1 (SetTable.grown es1.size)).1 (relayAll t2 es1 (SetTable.grown es1.size)).2.1
            pure (some true)
          else pure (some true)) R E s := by
  have go : ∀ b {s₁ : Shared} {Q : Unit → Shared → Prop}, Q () s₁ → wpAny (model P w) A (g b) Q E s₁ := fun b s₁ Q q => by
    obtain ⟨r, e⟩ := hg b
    rw [e]
    cases r
    · exact wpAny_pure q
    · exact wpAny_rule q
  have first := store_at (es' := es1) (t' := t2) ho hd
  have same1 := Heap.SameBut.update s.heap a (Obj.putSet es1 t2)
  refine wpAny_bind (wpAny_storeSet_of ho hd ?_ (fits_of_scanBound hb))
  by_cases c : (!wd && t2.tooFull) = true
  · rw [if_pos c]
    have pm := relayAll_perm t2 es1 (SetTable.grown es1.size)
    have hf3 := relayAll_fits t2 es1 (SetTable.grown es1.size)
    have hr3 := relayAll_ris t2 es1 (SetTable.grown es1.size)
    have hl3 := relayAll_led t2 es1 (SetTable.grown es1.size)
    generalize relayAll t2 es1 (SetTable.grown es1.size) = Z at pm hf3 hr3 hl3 ⊢
    obtain ⟨es2, t3, gave⟩ := Z
    dsimp only at pm hf3 hr3 hl3 ⊢
    have hz : es2.size = es1.size := by
      have q := pm.length_eq
      simpa using q
    have hb2 : es2.size < scanBound := by rw [hz]; exact hb
    have pk : (mem key es2).Perm (mem key es1) := List.Perm.map (fun e : Int × Value => key e.2) pm
    have led3 : w.params.followText "set-order" = true ∨ t3.led = true := by rw [hl3]; exact hl
    refine wpAny_bind (go _ (wpAny_bind (wpAny_storeSet_of first rfl (wpAny_pure (hR _ (same1.trans (Heap.SameBut.update _ a _)) ?_)) (fits_of_scanBound hb2))))
    have last := store_at (es' := es2) (t' := t3) first rfl
    exact ⟨_, es2, _, t3, ⟨last, hx, rfl⟩, ⟨g1.perm pm, pk.nodup_iff.mpr nd, fun k => (hm k).trans pk.mem_iff.symm⟩, ⟨hb2, hf3, hz⟩, hr3, led3⟩
  · rw [if_neg c]
    exact wpAny_pure (hR _ same1 ⟨_, _, _, _, ⟨first, hx, rfl⟩, ⟨g1, nd, hm⟩, ⟨hb, hf, rfl⟩, hr, hl⟩)
theorem setG_add_hashed (hk : KeyFn knd key) {k : κ} {x : Value} {Q : Bool → Shared → Prop} (hx : knd.is k x = true) (hsc : x.scannable = true) (R : SetG knd key s.heap a S n) (room : n + 1 < scanBound)
    (hQ : ∀ h', Heap.SameBut a s.heap h' → SetG knd key h' a (fun j => S j || decide (j = k)) (if S k = true then n else n + 1) → Q (!S k) { s with heap := h' }) :
    wpAny (model P w) A (setAddHashed a x (knd.hash k)) Q E s := by
  obtain ⟨o, es, ep, t, ⟨ho, hex, hd⟩, ⟨g, nd, hm⟩, ⟨hb, hf, hn⟩, hr, hl⟩ := R
  unfold setAddHashed setAddHashedIn
  refine wpAny_holding (wpAny_bind (wpAny_setState_of ho hd hf ?_))
  dsimp only
  rw [byScan_of hsc hb g]
  simp only [↓reduceIte]
  unfold setAddByScan
  refine wpAny_bind (wpAny_bind (wpAny_rule (wpAny_bind (wpAny_setScan_of hx ho hd hf g ?_))))
  cases hfi : es.toList.findIdx? (fun e => knd.is k e.2) with
  | some j =>
    obtain ⟨hj, pj, _⟩ := List.findIdx?_eq_some_iff_getElem.mp hfi
    have there : S k = true := (hm k).mpr ((mem_iff hk g k).mpr ⟨_, List.getElem_mem hj, pj⟩)
    have q := hQ s.heap (Heap.SameBut.refl a s.heap) ⟨o, es, ep, t, ⟨ho, hex, hd⟩, ⟨g, nd, fun i => ?_⟩, ⟨hb, hf, by rw [if_pos there]; exact hn⟩, hr, hl⟩
    · rw [there] at q
      exact wpAny_pure (wpAny_pure q)
    · rw [← hm i, Bool.or_eq_true, decide_eq_true_eq]
      refine ⟨fun z => z.elim id fun e => ?_, Or.inl⟩
      rw [e]; exact there
  | none =>
    have hnk : k ∉ mem key es := fun z => by
      obtain ⟨e, he, q⟩ := (mem_iff hk g k).mp z
      have c := List.findIdx?_eq_none_iff.mp hfi e he
      rw [q] at c
      cases c
    have gone : S k = false := Bool.eq_false_iff.mpr fun q => hnk ((hm k).mp q)
    dsimp only
    have pm := layNew_perm t es (knd.hash k) x
    have hf1 := layNew_fits t es (knd.hash k) x
    have hr1 := layNew_ris t es (knd.hash k) x hr
    have hl1 := layNew_led t es (knd.hash k) x
    generalize layNew t es (knd.hash k) x = Z at pm hf1 hr1 hl1 ⊢
    obtain ⟨es1, t1, wd, gave⟩ := Z
    dsimp only at pm hf1 hr1 hl1 ⊢
    rw [Array.toList_push] at pm
    have g1 : ElemsOf knd es1.toList := (g.push hx hsc).perm pm
    have pk : (mem key es1).Perm (k :: mem key es) := by
      have q := (pm.trans (List.perm_append_singleton _ _)).map fun e : Int × Value => key e.2
      rw [List.map_cons] at q
      rw [hk k x hx] at q
      exact q
    have nd1 : (mem key es1).Nodup := pk.nodup_iff.mpr (List.nodup_cons.mpr ⟨hnk, nd⟩)
    have m1 : ∀ i, (S i || decide (i = k)) = true ↔ i ∈ mem key es1 := fun i => by
      rw [pk.mem_iff, List.mem_cons, ← hm i, Bool.or_eq_true, decide_eq_true_eq]
      exact Or.comm
    have hz : es1.size = n + 1 := by
      have q := pm.length_eq
      simp only [List.length_append, List.length_singleton, Array.length_toList] at q
      omega
    have hb1 : es1.size < scanBound := by rw [hz]; exact room
    have hled : w.params.followText "set-order" = true ∨ t1.led = true := by
      rw [hl1]; exact hl
    have fin : ∀ h', Heap.SameBut a s.heap h' → SetG knd key h' a (fun j => S j || decide (j = k)) es1.size → Q true { s with heap := h' } := fun h' sb r => by
      rw [hz] at r
      have q := hQ h' sb (by rw [gone]; exact r)
      rw [gone] at q
      exact q
    have way : ∀ b : Bool, ∃ r : Bool, (match b with | true => rule "set.scan.the-table-gave-way" | false => pure () : Sem Unit) = if r then rule "set.scan.the-table-gave-way" else pure () := fun b => ⟨b, by cases b <;> rfl⟩
    refine wpAny_bind ?_
    have hgw : ∀ (b : Bool) {s₁ : Shared} {Q' : Unit → Shared → Prop}, Q' () s₁ → wpAny (model P w) A (match b with | true => rule "set.scan.the-table-gave-way" | false => pure ()) Q' E s₁ := fun b s₁ Q' q => by
      cases b
      · exact wpAny_pure q
      · exact wpAny_rule q
    refine hgw _ ?_
    split
    · refine wpAny_bind ?_
      rw [hashByValue_scannable 8 hsc]
      refine wpAny_pure (setG_tail way ho hex hd g1 nd1 m1 hb1 ?_ ?_ ?_ fun h' sb r => wpAny_pure (fin h' sb r))
      · first | exact hf1 | (split <;> first | exact hf1 | exact SetTable.fits_plain_off hf1)
      · first | exact hr1 | (split <;> exact hr1)
      · first | exact hled | (split <;> exact hled)
    · refine wpAny_bind (wpAny_pure ?_)
      simp only [↓reduceIte]
      exact setG_tail way ho hex hd g1 nd1 m1 hb1 hf1 hr1 hled fun h' sb r => wpAny_pure (fin h' sb r)
end
end NV
/-! SetG2 -/
set_option Elab.async false
set_option linter.all false
set_option maxRecDepth 100000
set_option maxHeartbeats 3200000
/-! set(xs) of a list or a tuple of keys; sorted of a set of texts -/
namespace NV
open PySem PySem.Spec PyProof.Rows L2
abbrev blank (w : World) : Obj := { cls := .type "set", dict := none, data := .set #[] 0 (.fresh 0 0 (!w.params.followText "set-order")) }
section
variable {P : Program} {w : World} {κ : Type} [DecidableEq κ] {knd : PySem.KeyKind P w κ} {key : Value → κ} {A : Around} {E : Value → Shared → Prop} {s : Shared}
/-- the items go into the set one by one -/
theorem fill (hk : KeyFn knd key) {I : Addr} {fp wr : List Addr} {G : Array GenState → Array GenState → Prop} {n : Nat} {Pv : Nat → Value → Prop} {St : Nat → Shared → Prop} {R : Result → Shared → Prop}
    (W : WalksS P w A.in1 I fp wr G n Pv St) (S : Addr) (hSf : S ∉ fp) (ks : List κ) (hn : n = ks.length) (hb : ks.length + 1 < scanBound) (hval : ∀ i v, Pv i v → ∃ k, ks[i]? = some k ∧ knd.is k v = true ∧ v.scannable = true)
    (hR : ∀ s0 s' c, Moved (S :: wr) G s0 s' → s0 = s → c ≤ n → SetG knd key s'.heap S (fun j => decide (j ∈ ks)) c → R (.ok (.ret .none)) s') :
    ∀ (m i : Nat) (s1 : Shared), n - i = m → i ≤ n → St i s1 → (i = 0 ∧ s1 = s ∨ Moved (S :: wr) G s s1) → (∃ c, c ≤ i ∧ SetG knd key s1.heap S (fun j => decide (j ∈ ks.take i)) c) →
      codeAny (model P w) A (.builtin "set.update.loop" ⟨[.ref S, .ref I], []⟩) R s1 := by
  have hSw : S ∉ wr := fun h => hSf (W.sub _ h)
  have up : ∀ b ∈ wr, b ∈ S :: wr := fun b hb => List.mem_cons_of_mem _ hb
  have after : ∀ {i : Nat} {s1 s2 : Shared}, (i = 0 ∧ s1 = s ∨ Moved (S :: wr) G s s1) → Moved (S :: wr) G s1 s2 → Moved (S :: wr) G s s2 := fun h hm => by
    rcases h with ⟨_, rfl⟩ | h
    · exact hm
    · exact h.trans W.gtrans hm
  intro m
  induction m with
  | zero =>
    intro i s1 hm hi hst hmv ⟨c, hc, hS⟩
    have hin : i = n := by omega
    subst hin
    refine codeAny_builtin F.entry_set_update_loop ?_
    rw [Around.under_plainId F.plain_set_update_loop _]
    refine wpAny_bind (m := pyNext (.ref I)) (W.done s1 _ _ hst fun s2 hm2 => ?_)
    have et : ks.take i = ks := List.take_of_length_le (Nat.le_of_eq hn.symm)
    rw [et] at hS
    exact wpAny_pure (hR s s2 c (after hmv (hm2.mono up)) rfl hc (hS.move fun o e => hm2.heap S o hSw e))
  | succ m ih =>
    intro i s1 hm hi hst hmv ⟨c, hc, hS⟩
    have hlt : i < n := by omega
    refine codeAny_builtin F.entry_set_update_loop ?_
    rw [Around.under_plainId F.plain_set_update_loop _]
    refine wpAny_bind (m := pyNext (.ref I)) (W.item i s1 _ _ hlt hst fun v s2 hP hst2 hm2 => ?_)
    obtain ⟨k, hk1, hk2, hk3⟩ := hval i v hP
    have hS2 : SetG knd key s2.heap S (fun j => decide (j ∈ ks.take i)) c := hS.move fun o e => hm2.heap S o hSw e
    refine wpAny_bind (m := holding [v] (setAdd S v)) (wpAny_holding ?_)
    unfold setAdd
    refine wpAny_holding (wpAny_bind (knd.pyHash hk2 ?_))
    refine setG_add_hashed (s := { s2 with toks := s2.toks + 1 }) hk hk2 hk3 hS2 (by omega) fun h3 hsb hS3 => ?_
    have hS4 : SetG knd key h3 S (fun j => decide (j ∈ ks.take (i + 1))) (if decide (k ∈ ks.take i) = true then c else c + 1) := hS3.sameS fun j => by
      rw [List.take_add_one, hk1]
      simp [List.mem_append]
    have hle : (if decide (k ∈ ks.take i) = true then c else c + 1) ≤ i + 1 := by split <;> omega
    have oth : ∀ b o, b ≠ S → s2.heap.get? b = some o → h3.get? b = some o := fun b o hb e => (hsb.2 b hb).trans e
    refine wpAny_pure ⟨plainId_quiet F.plain_set_update_loop _, ih (i + 1) _ (by omega) hlt (W.frame _ s2 _ _ hst2 (Nat.le_succ _) fun b hb o e => oth b o (fun z => hSf (by rw [← z]; exact hb)) e) (.inr (after hmv ((hm2.mono up).then_heap (Nat.le_succ _) fun b o hb e => ?_))) ⟨_, hle, hS4⟩⟩
    exact oth b o (fun z => hb (by rw [z]; exact List.mem_cons_self)) e
end
end NV
/-! SetG3 -/
set_option Elab.async false
set_option linter.all false
set_option maxRecDepth 100000
set_option maxHeartbeats 3200000
namespace NV
open PySem PySem.Spec PyProof.Rows L2
section
variable {P : Program} {w : World} {κ : Type} [DecidableEq κ] {knd : PySem.KeyKind P w κ} {key : Value → κ} {A : Around} {E : Value → Shared → Prop} {s : Shared}

theorem call_set_Tuple (hk : KeyFn knd key) {l : Addr} {items : Array Value} (ks : List κ) {Q : Value → Shared → Prop} (hh : A.handled = none) (hl : s.heap.IsTuple l items) (hz : items.size = ks.length)
    (hval : ∀ (i : Nat) (v : Value), items[i]? = some v → ∃ k, ks[i]? = some k ∧ knd.is k v = true ∧ v.scannable = true) (hb : ks.length + 1 < scanBound)
    (h : ∀ (h' : Heap) (tk c : Nat), SetG knd key h' s.heap.objs.size (fun j => decide (j ∈ ks)) c → (∀ b o, s.heap.get? b = some o → h'.get? b = some o) → Q (.ref s.heap.objs.size) { s with heap := h', toks := tk }) :
    wpAny (model P w) A (call (.type "set") [.ref l]) Q E s := by
  obtain ⟨c0, tl, hmro⟩ := F.called_set.mro
  have hmade := F.called_set.made
  have hsub := F.called_set.sub
  refine wpAny_call (codeAny_of_tree ?_)
  show wpAny _ _ (callAny (.type "set") _) _ _ _
  refine wpAny_pure ⟨Code.quiet_builtin _ (by decide +kernel), codeAny_builtin F.entry_type_call ?_⟩
  rw [Around.under_plain (weight_type_call_type "set" [.ref l] []) rfl]
  have h1 := F.called_set.notType
  have h2 := F.called_set.canCreate
  have hct := F.typeCall_set_1 (.ref l)
  repeat (any_goals (first | assumption | wp_step))
  generalize hn0 : ({ s with heap := s.heap.push (blank w) } : Shared) = s0
  have e0 : s0.heap = s.heap.push (blank w) := by rw [← hn0]
  refine codeAny_mono (code_set_led1 (.ref l) (E := E) (Q₁ := fun obj s₁ => obj = .ref s.heap.objs.size ∧ s₁ = s0) ⟨rfl, hn0⟩) fun r s₁ hr => ?_
  match r, hr with
  | .error e, hr => exact hr
  | .ok .next, hr => exact hr.elim
  | .ok .brk, hr => exact hr.elim
  | .ok .cont, hr => exact hr.elim
  | .ok (.ret obj), hr =>
    obtain ⟨rfl, rfl⟩ := hr
    have hS : s₁.heap.get? s.heap.objs.size = some (blank w) := by rw [e0]; exact Heap.get?_push_size _ rfl
    have hT : Shared.TypeIs s₁ (.ref s.heap.objs.size) "set" := ⟨_, hS, rfl⟩
    have hli := F.called_set.init.lookup
    have hbi := F.called_set.init.bind (.ref s.heap.objs.size)
    repeat (any_goals (first | assumption | wp_step))
    refine codeAny_mono (codeAny_call_builtin (R := wants (fun r s₂ => r = .none ∧ ∃ h' tk c, s₂ = { s with heap := h', toks := tk } ∧ SetG knd key h' s.heap.objs.size (fun j => decide (j ∈ ks)) c ∧
        (∀ b o, s.heap.get? b = some o → h'.get? b = some o)) E) F.called_set.init.plain F.entry_set_init (check_set_init_1 hT ?_)) fun r₂ s₂ hr₂ => ?_
    · have hl1 : s₁.heap.IsTuple l items := by rw [e0]; exact hl.push _
      have hlS : l < s.heap.objs.size := let ⟨_, ho, _⟩ := hl; Heap.lt_size ho
      have hsz : s₁.heap.objs.size = s.heap.objs.size + 1 := by rw [e0]; exact Heap.size_push ..
      obtain ⟨ol, hol, hcl, hrest⟩ := id hl1
      have hsls := F.sub_tuple_set
      have hslf := F.sub_tuple_frozenset
      have hne : (Value.type "tuple" == Value.type "dict") = false := by decide
      have hty : s₁.TypeIs (.ref l) "tuple" := hl1.typeIs
      unfold Builtin.«set.__init__» noKeywords Builtin.Frozenset.updateFrom
      generalize hPI : pyIter = PI
      wp_walk
      subst hPI
      refine wpAny_pyIter_tuple hl1 (wpAny_bind (wpAny_runValue ?_))
      generalize hn2 : ({ s₁ with heap := s₁.heap.push { cls := .type "tuple_iterator", data := .fields #[.ref l, .int 0 0] } } : Shared) = s3
      have e3 : s3.heap = s₁.heap.push { cls := .type "tuple_iterator", data := .fields #[.ref l, .int 0 0] } := by rw [← hn2]
      have k01 : ∀ b o, s.heap.get? b = some o → s₁.heap.get? b = some o := fun b o e => by rw [e0]; exact Heap.get?_push_of_some _ e
      have k13 : ∀ b o, s₁.heap.get? b = some o → s3.heap.get? b = some o := fun b o e => by rw [e3]; exact Heap.get?_push_of_some _ e
      have hneI : l ≠ s₁.heap.objs.size := fun z => by rw [z, hsz] at hlS; exact absurd hlS (Nat.not_lt.mpr (Nat.le_succ _))
      have hSf : s.heap.objs.size ∉ [s₁.heap.objs.size, l] := fun z => by
        rcases List.mem_cons.mp z with z | z
        · exact absurd (z.trans hsz) (Nat.ne_of_lt (Nat.lt_succ_self _))
        · rw [List.mem_singleton.mp z] at hlS
          exact Nat.lt_irrefl _ hlS
      have W := Walks.tuple (prog := P) (w := w) (A := A.in1.in1.in1) (by simp [hh]) s₁.heap.objs.size l hneI items
      refine fill (s := s3) hk W.toS s.heap.objs.size hSf ks hz hb hval (fun sx s' c' hm ex hcn hS' => ?_) (items.size - 0) 0 s3 rfl (Nat.zero_le _) ⟨⟨_, by rw [e3]; exact Heap.get?_push_size _ rfl, rfl, rfl⟩, by rw [e3]; exact hl1.push _⟩ (.inl ⟨rfl, rfl⟩) ⟨0, Nat.le_refl 0, SetG.sameS (SetG.start (k13 _ _ hS) rfl) fun k => by simp⟩
      subst ex
      obtain ⟨h', g2, d', tk', os'⟩ := s'
      have eg : g2 = s.gens := by
        have q := hm.gens
        rw [← hn2, ← hn0] at q
        exact q
      have ed : d' = s.drawn := by
        have q := hm.drawn
        rw [← hn2, ← hn0] at q
        exact q
      have eo : os' = s.os := by
        have q := hm.os
        rw [← hn2, ← hn0] at q
        exact q
      subst eg; subst ed; subst eo
      refine wpAny_pure ?_
      show wpAny _ _ (ret Value.none) _ _ _
      refine wpAny_pure ⟨rfl, h', tk', c', rfl, hS', fun b o e => ?_⟩
      have hb0 : b < s.heap.objs.size := Heap.lt_size e
      refine hm.heap b o (fun z => ?_) (k13 b o (k01 b o e))
      rcases List.mem_cons.mp z with z | z
      · exact Nat.ne_of_lt hb0 z
      · rw [List.mem_singleton.mp z, hsz] at hb0
        exact absurd hb0 (Nat.not_lt.mpr (Nat.le_succ _))
    · match r₂, hr₂ with
      | .error e, hr₂ => exact hr₂
      | .ok .next, hr₂ => exact hr₂.elim
      | .ok .brk, hr₂ => exact hr₂.elim
      | .ok .cont, hr₂ => exact hr₂.elim
      | .ok (.ret r), hr₂ =>
        obtain ⟨rfl, h', tk, c', rfl, hS', hk'⟩ := hr₂
        repeat (any_goals (first | assumption | wp_step))
        exact h _ _ _ hS' hk'
end
end NV
/-! SetG3L -/
set_option Elab.async false
set_option linter.all false
set_option maxRecDepth 100000
set_option maxHeartbeats 3200000
namespace NV
open PySem PySem.Spec PyProof.Rows L2
section
variable {P : Program} {w : World} {κ : Type} [DecidableEq κ] {knd : PySem.KeyKind P w κ} {key : Value → κ} {A : Around} {E : Value → Shared → Prop} {s : Shared}

theorem call_set_List (hk : KeyFn knd key) {l : Addr} {items : Array Value} (ks : List κ) {Q : Value → Shared → Prop} (hh : A.handled = none) (hl : s.heap.IsList l items) (hz : items.size = ks.length)
    (hval : ∀ (i : Nat) (v : Value), items[i]? = some v → ∃ k, ks[i]? = some k ∧ knd.is k v = true ∧ v.scannable = true) (hb : ks.length + 1 < scanBound)
    (h : ∀ (h' : Heap) (tk c : Nat), SetG knd key h' s.heap.objs.size (fun j => decide (j ∈ ks)) c → (∀ b o, s.heap.get? b = some o → h'.get? b = some o) → Q (.ref s.heap.objs.size) { s with heap := h', toks := tk }) :
    wpAny (model P w) A (call (.type "set") [.ref l]) Q E s := by
  obtain ⟨c0, tl, hmro⟩ := F.called_set.mro
  have hmade := F.called_set.made
  have hsub := F.called_set.sub
  refine wpAny_call (codeAny_of_tree ?_)
  show wpAny _ _ (callAny (.type "set") _) _ _ _
  refine wpAny_pure ⟨Code.quiet_builtin _ (by decide +kernel), codeAny_builtin F.entry_type_call ?_⟩
  rw [Around.under_plain (weight_type_call_type "set" [.ref l] []) rfl]
  have h1 := F.called_set.notType
  have h2 := F.called_set.canCreate
  have hct := F.typeCall_set_1 (.ref l)
  repeat (any_goals (first | assumption | wp_step))
  generalize hn0 : ({ s with heap := s.heap.push (blank w) } : Shared) = s0
  have e0 : s0.heap = s.heap.push (blank w) := by rw [← hn0]
  refine codeAny_mono (code_set_led1 (.ref l) (E := E) (Q₁ := fun obj s₁ => obj = .ref s.heap.objs.size ∧ s₁ = s0) ⟨rfl, hn0⟩) fun r s₁ hr => ?_
  match r, hr with
  | .error e, hr => exact hr
  | .ok .next, hr => exact hr.elim
  | .ok .brk, hr => exact hr.elim
  | .ok .cont, hr => exact hr.elim
  | .ok (.ret obj), hr =>
    obtain ⟨rfl, rfl⟩ := hr
    have hS : s₁.heap.get? s.heap.objs.size = some (blank w) := by rw [e0]; exact Heap.get?_push_size _ rfl
    have hT : Shared.TypeIs s₁ (.ref s.heap.objs.size) "set" := ⟨_, hS, rfl⟩
    have hli := F.called_set.init.lookup
    have hbi := F.called_set.init.bind (.ref s.heap.objs.size)
    repeat (any_goals (first | assumption | wp_step))
    refine codeAny_mono (codeAny_call_builtin (R := wants (fun r s₂ => r = .none ∧ ∃ h' tk c, s₂ = { s with heap := h', toks := tk } ∧ SetG knd key h' s.heap.objs.size (fun j => decide (j ∈ ks)) c ∧
        (∀ b o, s.heap.get? b = some o → h'.get? b = some o)) E) F.called_set.init.plain F.entry_set_init (check_set_init_1 hT ?_)) fun r₂ s₂ hr₂ => ?_
    · have hl1 : s₁.heap.IsList l items := by rw [e0]; exact hl.push _
      have hlS : l < s.heap.objs.size := let ⟨_, ho, _⟩ := hl; Heap.lt_size ho
      have hsz : s₁.heap.objs.size = s.heap.objs.size + 1 := by rw [e0]; exact Heap.size_push ..
      obtain ⟨ol, hol, hcl, hrest⟩ := id hl1
      have hsls := F.sub_list_set
      have hslf := F.sub_list_frozenset
      have hne : (Value.type "list" == Value.type "dict") = false := by decide
      have hty : s₁.TypeIs (.ref l) "list" := hl1.typeIs
      unfold Builtin.«set.__init__» noKeywords Builtin.Frozenset.updateFrom
      generalize hPI : pyIter = PI
      wp_walk
      subst hPI
      refine wpAny_pyIter_list hl1 (wpAny_bind (wpAny_runValue ?_))
      generalize hn2 : ({ s₁ with heap := s₁.heap.push { cls := .type "list_iterator", data := .fields #[.ref l, .int 0 0] } } : Shared) = s3
      have e3 : s3.heap = s₁.heap.push { cls := .type "list_iterator", data := .fields #[.ref l, .int 0 0] } := by rw [← hn2]
      have k01 : ∀ b o, s.heap.get? b = some o → s₁.heap.get? b = some o := fun b o e => by rw [e0]; exact Heap.get?_push_of_some _ e
      have k13 : ∀ b o, s₁.heap.get? b = some o → s3.heap.get? b = some o := fun b o e => by rw [e3]; exact Heap.get?_push_of_some _ e
      have hneI : l ≠ s₁.heap.objs.size := fun z => by rw [z, hsz] at hlS; exact absurd hlS (Nat.not_lt.mpr (Nat.le_succ _))
      have hSf : s.heap.objs.size ∉ [s₁.heap.objs.size, l] := fun z => by
        rcases List.mem_cons.mp z with z | z
        · exact absurd (z.trans hsz) (Nat.ne_of_lt (Nat.lt_succ_self _))
        · rw [List.mem_singleton.mp z] at hlS
          exact Nat.lt_irrefl _ hlS
      have W := Walks.list (prog := P) (w := w) (A := A.in1.in1.in1) (by simp [hh]) s₁.heap.objs.size l hneI items
      refine fill (s := s3) hk W.toS s.heap.objs.size hSf ks hz hb hval (fun sx s' c' hm ex hcn hS' => ?_) (items.size - 0) 0 s3 rfl (Nat.zero_le _) ⟨⟨_, by rw [e3]; exact Heap.get?_push_size _ rfl, rfl, rfl⟩, by rw [e3]; exact hl1.push _⟩ (.inl ⟨rfl, rfl⟩) ⟨0, Nat.le_refl 0, SetG.sameS (SetG.start (k13 _ _ hS) rfl) fun k => by simp⟩
      subst ex
      obtain ⟨h', g2, d', tk', os'⟩ := s'
      have eg : g2 = s.gens := by
        have q := hm.gens
        rw [← hn2, ← hn0] at q
        exact q
      have ed : d' = s.drawn := by
        have q := hm.drawn
        rw [← hn2, ← hn0] at q
        exact q
      have eo : os' = s.os := by
        have q := hm.os
        rw [← hn2, ← hn0] at q
        exact q
      subst eg; subst ed; subst eo
      refine wpAny_pure ?_
      show wpAny _ _ (ret Value.none) _ _ _
      refine wpAny_pure ⟨rfl, h', tk', c', rfl, hS', fun b o e => ?_⟩
      have hb0 : b < s.heap.objs.size := Heap.lt_size e
      refine hm.heap b o (fun z => ?_) (k13 b o (k01 b o e))
      rcases List.mem_cons.mp z with z | z
      · exact Nat.ne_of_lt hb0 z
      · rw [List.mem_singleton.mp z, hsz] at hb0
        exact absurd hb0 (Nat.not_lt.mpr (Nat.le_succ _))
    · match r₂, hr₂ with
      | .error e, hr₂ => exact hr₂
      | .ok .next, hr₂ => exact hr₂.elim
      | .ok .brk, hr₂ => exact hr₂.elim
      | .ok .cont, hr₂ => exact hr₂.elim
      | .ok (.ret r), hr₂ =>
        obtain ⟨rfl, h', tk, c', rfl, hS', hk'⟩ := hr₂
        repeat (any_goals (first | assumption | wp_step))
        exact h _ _ _ hS' hk'
end
end NV
/-! SetG4 -/
set_option Elab.async false
set_option linter.all false
set_option maxRecDepth 100000
set_option maxHeartbeats 600000
/-! sets of texts: made of a sequence, len, sorted -/
namespace NV
open PySem PySem.Spec PyProof.Rows L2
def tKey : Value → Str
  | .str z _ => z
  | _ => ""
section
variable {P : Program} {w : World}
theorem tKey_ok : KeyFn (PySem.strKind P w) tKey := fun k v h => by
  obtain ⟨t, rfl⟩ := Value.isStrOf_shape h
  rfl
def SetT (P : Program) (w : World) (a : Addr) (S : Str → Bool) (n : Nat) : HO := .ext fun h => SetG (PySem.strKind P w) tKey h a S n
theorem setT_new {H : Hp} {h : Heap} {a : Addr} {S : Str → Bool} {n : Nat} (R : SetG (PySem.strKind P w) tKey h a S n) : ObjOk P w H h a (SetT P w a S n) := by
  have ⟨o, _, _, _, ⟨ho, _⟩, _⟩ := R
  exact ⟨R, ⟨o, ho⟩, fun h1 h2 p k => SetG.move p k⟩
end
/-! ### sizes -/
theorem few_of {m : List Str} : ∀ {z : List Str}, m.Nodup → (∀ k ∈ m, k ∈ z) → m.length ≤ z.length ∧ (m.length = z.length → z.Nodup)
  | [], _, h => by
    cases m with
    | nil => exact ⟨Nat.le_refl _, fun _ => .nil⟩
    | cons x m => exact absurd (h x List.mem_cons_self) (by simp)
  | x :: t, hd, h => by
    have h1 : (m.erase x).Nodup := hd.sublist List.erase_sublist
    have h2 : ∀ k ∈ m.erase x, k ∈ t := fun k hk => by
      rcases List.mem_cons.mp (h k (List.mem_of_mem_erase hk)) with z | z
      · rw [z] at hk
        exact absurd hk hd.not_mem_erase
      · exact z
    obtain ⟨a, b⟩ := few_of h1 h2
    have hl : m.length ≤ (m.erase x).length + 1 := by
      rw [List.length_erase]
      split <;> omega
    refine ⟨by rw [List.length_cons]; omega, fun e => ?_⟩
    rw [List.length_cons] at e
    by_cases hx : x ∈ t
    · have h3 : ∀ k ∈ m, k ∈ t := fun k hk => by
        rcases List.mem_cons.mp (h k hk) with z | z
        · rw [z]; exact hx
        · exact z
      have := (few_of hd h3).1
      omega
    · exact List.nodup_cons.mpr ⟨hx, b (by omega)⟩
theorem same_size {m z : List Str} (hm : m.Nodup) (hz : z.Nodup) (h : ∀ k, k ∈ m ↔ k ∈ z) : m.length = z.length :=
  Nat.le_antisymm (few_of hm fun k hk => (h k).mp hk).1 (few_of hz fun k hk => (h k).mpr hk).1
section
variable {P : Program} {w : World}
theorem setG_size {h : Heap} {a : Addr} {zs : List Str} {n : Nat} (R : SetG (PySem.strKind P w) tKey h a (fun j => decide (j ∈ zs)) n) : n ≤ zs.length ∧ (n = zs.length ↔ zs.Nodup) := by
  obtain ⟨o, es, ep, t, _, ⟨_, nd, hm⟩, ⟨_, _, hn⟩, _⟩ := R
  have hl : (mem tKey es).length = n := by unfold mem; rw [List.length_map, Array.length_toList]; exact hn
  have hm' : ∀ k, k ∈ mem tKey es ↔ k ∈ zs := fun k => by rw [← hm k, decide_eq_true_eq]
  obtain ⟨h1, h2⟩ := few_of nd fun k hk => (hm' k).mp hk
  rw [hl] at h1 h2
  exact ⟨h1, h2, fun z => by rw [← hl]; exact same_size nd z hm'⟩
end
section
variable {P : Program} {w : World} {A : Around} {E : Value → Shared → Prop} {s : Shared} {a : Addr}
theorem sorted_setG {S : Str → Bool} {n : Nat} {Q : Value → Shared → Prop} (R : SetG (PySem.strKind P w) tKey s.heap a S n) (hh : A.handled = none) (h64 : n < 64)
    (hQ : ∀ s' p (out : Array Value) (c : Nat) (zs : List Str), (∀ b o, s.heap.get? b = some o → s'.heap.get? b = some o) → s'.gens = s.gens → s'.os = s.os → s.heap.objs.size ≤ p →
      s'.heap.get? p = some (seqObj "list" out c) → StrsAre out.toList zs → Asc zs → (∀ k, k ∈ zs ↔ S k = true) → zs.length = n → Q (.ref p) s') :
    wpAny (model P w) A (call (.builtin "sorted") [.ref a]) Q E s := by
  obtain ⟨o, es, ep, t, ⟨ho, hex, hd⟩, ⟨g, nd, hm⟩, ⟨hb, hf, hn⟩, hr, hl⟩ := R
  refine Calls.call_function_entry kind_sorted plain_sorted entry_sorted (args_sorted1 _) ?_
  unfold Builtin.«sorted»
  refine wpAny_bind (m := checkCount "sorted" 1 1 _) (wpAny_pure ?_)
  refine wpAny_bind (collect_set (A := A.in1) hh ⟨o, ho, hex.1, hd⟩ hf hb hr hl fun s1 vs k1 hz g1 o1 pm => ?_)
  have hvl : vs.length = n := by rw [pm.length_eq, List.length_map, Array.length_toList]; exact hn
  have hI : StrsAre vs (vs.map tKey) := by
    have : ∀ l : List Value, (∀ v ∈ l, ∃ k u, v = Value.str k u) → StrsAre l (l.map tKey) := by
      intro l
      induction l with
      | nil => exact fun _ => .nil
      | cons v l ih =>
        intro h
        obtain ⟨k, u, rfl⟩ := h v List.mem_cons_self
        exact .cons k u (ih fun x hx => h x (List.mem_cons_of_mem _ hx))
    refine this vs fun v hv => ?_
    obtain ⟨e, he, q⟩ := List.mem_map.mp (pm.mem_iff.mp hv)
    obtain ⟨⟨k, hk, _⟩, _⟩ := g e he
    obtain ⟨u, hu⟩ := Value.isStrOf_shape hk
    exact ⟨k, u, by rw [← q]; exact hu⟩
  have pk : (vs.map tKey).Perm (mem tKey es) := by
    have q := pm.map tKey
    rw [List.map_map] at q
    exact q
  refine wpAny_bind (wpAny_newList ?_ (by rw [hvl, sizeLine_eq]; omega))
  have hoL : (s1.heap.push (seqObj "list" vs.toArray 0)).get? s1.heap.objs.size = some (seqObj "list" vs.toArray 0) := Heap.get?_push_size _ rfl
  refine wpAny_bind (wpAny_holding (wpAny_call_entry slot_list_sort ⟨_, hoL, rfl⟩ entry_list_sort (list_sort_treeK strKind_oneLt hoL hI.keysOf (fun v₁ v₂ rest e => keyKind_strs (by rw [← e]; exact hI)) (by rw [hvl]; exact h64) fun st' hp hs => ⟨_, rfl, ?_⟩) (args_list_sort _)))
  obtain ⟨zs, a1, a2, a3⟩ := sorted_out_str hI hp hs
  obtain ⟨c, hc⟩ := sortedHeap_at (vs := vs) (out := (arrOf st').map (·.2)) hoL
  have pn : zs.Perm (mem tKey es) := a2.trans pk
  refine wpAny_pure ⟨_, rfl, hQ _ s1.heap.objs.size _ c zs (fun b u e => ?_) g1 o1 hz hc a1 (sorted_asc a3 (pn.nodup_iff.mpr nd)) (fun k => by rw [pn.mem_iff, ← hm k]) ?_⟩
  · have q := k1 b u e
    have hlt := Heap.lt_size q
    show (sortedHeap (s1.heap.push (seqObj "list" vs.toArray 0)) s1.heap.objs.size vs _).get? b = some u
    rw [sortedHeap_old (Nat.ne_of_lt hlt) (by rw [size_push']; exact Nat.lt_succ_of_lt hlt)]
    exact Heap.get?_push_of_some _ q
  · rw [pn.length_eq]
    show (es.toList.map _).length = n
    rw [List.length_map, Array.length_toList]; exact hn
end
section
variable {X : Cx}
theorem setT_get {pins : List (Addr × Obj)} {σ : L2.St} {H : Hp} {s : Shared} {a : Addr} {S : Str → Bool} {n : Nat} (I : Inv X pins σ H s) (ha : H a = some (SetT X.prog X.w a S n)) : SetG (PySem.strKind X.prog X.w) tKey s.heap a S n := (I.hok a _ ha).1
/-- set(xs), xs a list or a tuple of texts -/
def rSetTx (K : PySem.W.Frag) (P : Program) (w : World) : List V → Hp → VK → Prop := fun xs H Q => ∃ (l : Addr) (zs : List Str), xs = [.ref l] ∧ (SqL K H l (zs.map V.str) ∨ SqT K H l (zs.map V.str)) ∧ zs.length < 1000 ∧
  ∀ (a : Addr) (n : Nat), n ≤ zs.length → (n = zs.length ↔ zs.Nodup) → H a = none → Q (.ref a) (upd H a (SetT P w a (fun j => decide (j ∈ zs)) n))
theorem strs_at {its : List Value} {zs : List Str} (rv : StrsAre its zs) : its.toArray.size = zs.length ∧ ∀ (i : Nat) (v : Value), its.toArray[i]? = some v → ∃ k, zs[i]? = some k ∧ Value.isStrOf k v = true ∧ v.scannable = true := by
  have hl := rv.len_eq
  refine ⟨by simpa using hl, fun i v hv => ?_⟩
  have hv' : its[i]? = some v := by simpa using hv
  have hi : i < zs.length := by rw [← hl]; exact (List.getElem?_eq_some_iff.mp hv').1
  obtain ⟨t, ht⟩ := rv.at (List.getElem?_eq_getElem hi)
  rw [hv'] at ht
  cases ht
  exact ⟨_, List.getElem?_eq_getElem hi, by show (zs[i] == zs[i]) = true; exact beq_self_eq_true _, rfl⟩
theorem cr_setTx (hc : X.calm = true) : CallR X (.type "set") (rSetTx X.K X.prog X.w) := by
  intro pins s σ H xs us Q I r h
  obtain ⟨l, zs, rfl, hs, hz, q⟩ := h
  rw [Vals.ref1 r]
  have hb : zs.length + 1 < scanBound := by unfold scanBound; omega
  rcases hs with hs | hs
  · obtain ⟨its, rv, pl, _⟩ := I.list hs
    obtain ⟨e1, e2⟩ := strs_at rv.strs
    refine call_set_List (knd := PySem.strKind X.prog X.w) (key := tKey) tKey_ok zs (I.ok.hd hc) pl.isList e1 e2 hb fun h' tk c R k => ?_
    obtain ⟨n1, n2⟩ := setG_size R
    exact ⟨.ref s.heap.objs.size, upd H s.heap.objs.size (SetT X.prog X.w s.heap.objs.size (fun j => decide (j ∈ zs)) c), I.laid (t' := tk) k (Nat.le_refl _) (setT_new R), rfl, q _ c n1 n2 (I.hok.fresh (Nat.le_refl _))⟩
  · obtain ⟨its, rv, pl, _⟩ := I.tuple hs
    obtain ⟨e1, e2⟩ := strs_at rv.strs
    refine call_set_Tuple (knd := PySem.strKind X.prog X.w) (key := tKey) tKey_ok zs (I.ok.hd hc) pl e1 e2 hb fun h' tk c R k => ?_
    obtain ⟨n1, n2⟩ := setG_size R
    exact ⟨.ref s.heap.objs.size, upd H s.heap.objs.size (SetT X.prog X.w s.heap.objs.size (fun j => decide (j ∈ zs)) c), I.laid (t' := tk) k (Nat.le_refl _) (setT_new R), rfl, q _ c n1 n2 (I.hok.fresh (Nat.le_refl _))⟩
/-- len(found) -/
def rLenTx (P : Program) (w : World) : List V → Hp → VK → Prop := fun xs H Q => ∃ (a : Addr) (S : Str → Bool) (n : Nat), xs = [.ref a] ∧ H a = some (SetT P w a S n) ∧ Q (.int n) H
theorem cr_lenTx : CallR X (.builtin "len") (rLenTx X.prog X.w) := by
  intro pins s σ H xs us Q I r h
  obtain ⟨a, S, n, rfl, ha, q⟩ := h
  rw [Vals.ref1 r]
  obtain ⟨o, es, ep, t, ⟨ho, hex, hd⟩, _, ⟨hb, hf, hn⟩, _⟩ := setT_get I ha
  have hb' : es.size < 4096 := Nat.lt_of_lt_of_le hb (by unfold scanBound; decide)
  subst hn
  exact PySem.call_len_set ho hex hd hf (by omega) ⟨.int _, H, I.tok _, ⟨_, rfl⟩, q⟩
/-- sorted(found), fewer than 64 -/
def rSortedTx (P : Program) (w : World) : List V → Hp → VK → Prop := fun vs H Q => ∃ (a : Addr) (S : Str → Bool) (n : Nat), vs = [V.ref a] ∧ H a = some (SetT P w a S n) ∧ n < 64 ∧
  ∀ (zs : List Str) (p : Addr), Asc zs → (∀ k, k ∈ zs ↔ S k = true) → zs.length = n → H p = none → Q (.ref p) (upd H p (.lst (zs.map V.str)))
theorem cr_sortedTx (hc : X.calm = true) : CallR X (.builtin "sorted") (rSortedTx X.prog X.w) := by
  intro pins s σ H vs us Q I r h
  obtain ⟨a, S, n, rfl, ha, h64, q⟩ := h
  have R := setT_get I ha
  rw [Vals.ref1 r]
  refine sorted_setG R (I.ok.hd hc) h64 fun s' p out c zs k g o hp hg hi hs hm hl => ?_
  have hlen : (zs.map V.str).length ≤ sizeLine := by rw [List.length_map, hl, sizeLine_eq]; omega
  have hn : H p = none := I.hok.fresh hp
  have J : Inv X pins σ (upd H p (.lst (zs.map V.str))) { s with heap := s'.heap, gens := s'.gens, drawn := s'.drawn, toks := s'.toks } :=
    I.call (ch := []) (Un.laid k hp hn) (I.hok.laid k hp ⟨hlen, out.toList, c, vals_of_strs hi, hg⟩) (by rw [g]; exact I.bare) (fun _ z => nomatch z)
  have e : s' = { s with heap := s'.heap, gens := s'.gens, drawn := s'.drawn, toks := s'.toks } := by
    cases s'
    cases s
    cases o
    rfl
  rw [e]
  exact ⟨.ref p, _, J, rfl, q zs p hs hm hl hn⟩
theorem setTxE (K : PySem.W.Frag) (P : Program) (w : World) (hc : X.calm = true) (hK : X.K = K := by rfl) (hP : X.prog = P := by rfl) (hw : X.w = w := by rfl) : CallR X (.type "set") (rSetTx K P w) := by
  subst hK; subst hP; subst hw; exact cr_setTx hc
theorem lenTxE (P : Program) (w : World) (hP : X.prog = P := by rfl) (hw : X.w = w := by rfl) : CallR X (.builtin "len") (rLenTx P w) := by
  subst hP; subst hw; exact cr_lenTx
theorem sortedTxE (P : Program) (w : World) (hc : X.calm = true) (hP : X.prog = P := by rfl) (hw : X.w = w := by rfl) : CallR X (.builtin "sorted") (rSortedTx P w) := by
  subst hP; subst hw; exact cr_sortedTx hc
end
end NV
/-! G1 -/
set_option Elab.async false
set_option linter.all false
set_option maxRecDepth 100000
set_option maxHeartbeats 400000
namespace NV
open PySem PySem.Spec PyProof.Rows L2
open C8 (pss_cut)
/-! ### what data are -/
def tyN : PyData → String
  | .none => "NoneType"
  | .bool _ => "bool"
  | .int _ => "int"
  | .str _ => "str"
  | .list _ => "list"
  | .tuple _ => "tuple"
  | .dict _ => "dict"
theorem rp_ty {K : PySem.W.Frag} {ex : List Addr} {H : Hp} : ∀ {d : PyData} {v : V}, Rp ex H d v → TyX K H v (.type (tyN d))
  | .none, _, h => by
    subst h
    exact .base .non
  | .bool b, _, h => by
    subst h
    exact .base (.bl b)
  | .int i, _, h => by
    subst h
    exact .base (.int i)
  | .str z, _, h => by
    subst h
    exact .base (.str z)
  | .list ds, _, ⟨a, xs, e, _, h1, _⟩ => by
    subst e
    exact .base (.lst h1)
  | .tuple ds, _, ⟨a, xs, e, _, h1, _⟩ => by
    subst e
    exact .base (.tup h1)
  | .dict kvs, _, ⟨_, a, e, _, h1⟩ => by
    subst e
    exact .base (.dK h1)
/-- isinstance of data -/
def isD (T : String) (d : PyData) : Bool := tyN d == T || (T == "int" && tyN d == "bool")
def isTys : List String := ["str", "int", "bool", "list", "tuple"]
theorem kit_isD : ∀ T ∈ isTys, ∀ d : PyData, kitB (tyN d) T = some (isD T d) := by
  have h : ∀ T ∈ isTys, ∀ t ∈ ["NoneType", "bool", "int", "str", "list", "tuple", "dict"], kitB t T = some (t == T || (T == "int" && t == "bool")) := by decide +kernel
  intro T hT d
  refine h T hT (tyN d) ?_
  cases d <;> simp [tyN]
def rIsD (T : String) : List V → Hp → VK → Prop := fun xs H Q => ∃ (v : V) (d : PyData) (ex : List Addr), xs = [v, .ty T] ∧ Rp ex H d v ∧ Q (.bl (isD T d)) H
theorem cr_isD {X : Cx} {T : String} (hT : T ∈ isTys) : CallR X (.builtin "isinstance") (rIsD T) := by
  intro pins s σ H xs us Q I r h
  obtain ⟨v, d, ex, rfl, hd, q⟩ := h
  exact call_isi pins s σ H _ us Q I r ⟨v, .ty T, _, _, isD T d, rfl, .ty T, rp_ty hd, kit_ty (kit_isD T hT d), q⟩
def rIsD2 (T U : String) : List V → Hp → VK → Prop := fun xs H Q => ∃ (v : V) (d : PyData) (ex : List Addr) (tp : Addr), xs = [v, .ref tp] ∧ H tp = some (.tup [.ty T, .ty U]) ∧ Rp ex H d v ∧ Q (.bl (isD T d || isD U d)) H
theorem cr_isD2 {X : Cx} {T U : String} (hT : T ∈ isTys) (hU : U ∈ isTys) : CallR X (.builtin "isinstance") (rIsD2 T U) := by
  intro pins s σ H xs us Q I r h
  obtain ⟨v, d, ex, tp, rfl, ht, hd, q⟩ := h
  refine call_isiT pins s σ H _ us Q I r ⟨v, tp, _, _, _, isD T d || isD U d, rfl, ht, .cons (.ty T) (.cons (.ty U) .nil), rp_ty hd, ?_, q⟩
  refine kitAny_cons (kit_ty (kit_isD T hT d)) (fun e => ?_) (fun e => by rw [e]; rfl)
  rw [e, Bool.false_or]
  exact kitAny_cons (kit_ty (kit_isD U hU d)) (fun e => by rw [e]; rfl) (fun e => e)
/-- a word of 1 to most signs, of any data -/
def wordD (most : Nat) (digits : Bool) : PyData → Bool
  | .str z => wordB most digits z
  | _ => false
theorem str_of_isD {d : PyData} (h : isD "str" d = true) : ∃ z, d = .str z := by
  cases d with
  | str z => exact ⟨z, rfl⟩
  | _ => exact absurd (show (_ : Bool) = true from h) (by simp [isD, tyN])
theorem wordD_no {d : PyData} {m : Nat} {b : Bool} (h : isD "str" d = false) : wordD m b d = false := by
  cases d with
  | str z => exact absurd h (by simp [isD, tyN])
  | _ => rfl
def digS (b : Bool) : Str := if b then "0123456789" else ""
theorem sign_in (b : Bool) (c : Nat) : decide (c ∈ (("abcdefghijklmnopqrstuvwxyz" : Str) ++ digS b).cps.toList) = isSign b c := by
  have h1 : (("abcdefghijklmnopqrstuvwxyz" : Str) ++ digS true).cps.toList = [97, 98, 99, 100, 101, 102, 103, 104, 105, 106, 107, 108, 109, 110, 111, 112, 113, 114, 115, 116, 117, 118, 119, 120, 121, 122, 48, 49, 50, 51, 52, 53, 54, 55, 56, 57] := by decide +kernel
  have h2 : (("abcdefghijklmnopqrstuvwxyz" : Str) ++ digS false).cps.toList = [97, 98, 99, 100, 101, 102, 103, 104, 105, 106, 107, 108, 109, 110, 111, 112, 113, 114, 115, 116, 117, 118, 119, 120, 121, 122] := by decide +kernel
  have e : ∀ {p q : Prop} [Decidable p] [Decidable q], (p ↔ q) → decide p = decide q := fun h => by simp [h]
  unfold isSign
  cases b with
  | true =>
    rw [h1, show ((decide (97 ≤ c) && decide (c ≤ 122)) || (true && (decide (48 ≤ c) && decide (c ≤ 57)))) = decide ((97 ≤ c ∧ c ≤ 122) ∨ (48 ≤ c ∧ c ≤ 57)) by simp]
    refine e ?_
    simp only [List.mem_cons, List.not_mem_nil, or_false]
    omega
  | false =>
    rw [h2, show ((decide (97 ≤ c) && decide (c ≤ 122)) || (false && (decide (48 ≤ c) && decide (c ≤ 57)))) = decide (97 ≤ c ∧ c ≤ 122) by simp]
    refine e ?_
    simp only [List.mem_cons, List.not_mem_nil, or_false]
    omega
/-- a comprehension over a text whose test and element change nothing -/
theorem lc_sign {tt : TT} {te : TE} {i : Nat} {σ : L2.St} {C : Addr} {z : Str} {H1 : Hp} {Qd : Hp → Prop} (p : Nat → Bool) (hz : z.cps.size < 1000)
    (htt : ∀ (c : Nat) (H : Hp) (Q : Bool → Hp → Prop), Q (p c) H → tt ((wipe σ [i]).set i (some (.str ⟨#[c]⟩))) H Q)
    (hte : ∀ (c : Nat) (H : Hp) (Q : V → Hp → Prop), Q (.str ⟨#[c]⟩) H → te ((wipe σ [i]).set i (some (.str ⟨#[c]⟩))) H Q) (hd : Qd (upd H1 C (.lst ((z.cps.toList.filter p).map fun c => V.str ⟨#[c]⟩)))) :
    ∃ W : Nat → Nat → Hp → Prop, (∃ m, W 0 m (upd H1 C (.lst []))) ∧ ∀ i' m H, W i' m H →
      ((Its z).stop i' H ∧ Qd H) ∨ ((Its z).go i' H ∧ ∃ Nx : Hp → Prop, (∀ H', Nx H' → ∃ m', m' < m ∧ W (i' + 1) m' H') ∧ ∀ x H', (Its z).yld i' H x H' → gName i x (wipe σ [i]) H' fun σ2 H2 => wipe σ2 [i] = wipe σ [i] ∧ tt σ2 H2 fun b H3 =>
        if b = true then te σ2 H3 fun y H4 => ∃ acc, H4 C = some (.lst acc) ∧ acc.length < sizeLine ∧ Nx (upd H4 C (.lst (acc ++ [y]))) else Nx H3) := by
  have hn : z.cps.toList.length = z.cps.size := Array.length_toList
  refine ⟨fun i' m H => m = z.cps.size - i' ∧ i' ≤ z.cps.size ∧ H = upd H1 C (.lst (((z.cps.toList.take i').filter p).map fun c => V.str ⟨#[c]⟩)), ⟨z.cps.size, by simp, Nat.zero_le _, rfl⟩, ?_⟩
  rintro i' m H ⟨rfl, hi, rfl⟩
  by_cases hlt : i' < z.cps.size
  · refine .inr ⟨hlt, fun H' => H' = upd H1 C (.lst (((z.cps.toList.take (i' + 1)).filter p).map fun c => V.str ⟨#[c]⟩)), fun H' e => ⟨z.cps.size - (i' + 1), by omega, rfl, hlt, e⟩, ?_⟩
    rintro x H' ⟨rfl, c, hc, rfl⟩
    have hc' : z.cps.toList[i']? = some c := by rw [Array.getElem?_toList]; exact hc
    have htk : z.cps.toList.take (i' + 1) = z.cps.toList.take i' ++ [c] := by rw [List.take_add_one, hc']; rfl
    refine ⟨wipe_again, htt c _ _ ?_⟩
    cases hp : p c with
    | true =>
      refine iteT (hte c _ _ ⟨_, upd_same, ?_, ?_⟩)
      · have h1 : ((z.cps.toList.take i').filter p).length ≤ (z.cps.toList.take i').length := List.length_filter_le _ _
        rw [List.length_take] at h1
        rw [List.length_map]
        exact small1000 (by omega)
      · rw [upd_upd, htk, List.filter_append, List.map_append, List.filter_cons_of_pos hp]
        rfl
    | false =>
      refine iteF ?_
      rw [htk, List.filter_append, List.filter_cons_of_neg (by rw [hp]; exact Bool.false_ne_true)]
      simp
  · have e : i' = z.cps.size := by omega
    subst e
    refine .inl ⟨Nat.le_refl _, ?_⟩
    rw [← hn, List.take_length]
    exact hd
theorem strOk_one {z : Str} {c : Nat} (h : PyData.strOk z = true) (hc : c ∈ z.cps.toList) : PyData.strOk ⟨#[c]⟩ = true := by
  unfold PyData.strOk at h ⊢
  rw [Array.all_eq_true_iff_forall_mem] at h
  have := h c (by simpa using hc)
  simpa using this
/-! ### lists of texts, compared -/
theorem dpAll_strs {K : PySem.W.Frag} {H : Hp} : ∀ zs : List Str, DpAll K H (zs.map V.str) (zs.map PyData.str)
  | [] => .nil
  | z :: zs => .cons (.str z) (dpAll_strs zs)
theorem lay_strs : ∀ zs : List Str, (∀ z ∈ zs, PyData.strOk z = true) → PyData.canLayAll0 (zs.map PyData.str) = true
  | [], _ => by simp [PyData.canLayAll0]
  | z :: zs, h => by
    have := lay_strs zs fun y hy => h y (List.mem_cons_of_mem _ hy)
    simp [PyData.canLayAll0, PyData.canLay0, this, h z List.mem_cons_self]
theorem depth_strs : ∀ zs : List Str, PyData.depthAll (zs.map PyData.str) = 0
  | [] => by simp [PyData.depthAll]
  | z :: zs => by
    have := depth_strs zs
    simp [PyData.depthAll, PyData.depth, this]
theorem shaped_strs (zs : List Str) (h : ∀ z ∈ zs, PyData.strOk z = true) : SeqAt.shaped (.list (zs.map PyData.str)) = true := by
  unfold SeqAt.shaped
  simp [PyData.canLay0, PyData.depth, lay_strs zs h, depth_strs]
theorem eqv_strs : ∀ zs ys : List Str, PyData.eqv (.list (zs.map PyData.str)) (.list (ys.map PyData.str)) = decide (zs = ys)
  | [], [] => by simp [PyData.eqv, PyData.eqvAll]
  | [], y :: ys => by simp [PyData.eqv, PyData.eqvAll]
  | z :: zs, [] => by simp [PyData.eqv, PyData.eqvAll]
  | z :: zs, y :: ys => by
    have := eqv_strs zs ys
    simp only [PyData.eqv] at this
    simp only [List.map_cons, PyData.eqv, PyData.eqvAll, this]
    by_cases h : z = y
    · simp [h]
    · simp [h]
theorem eq_strs {K : PySem.W.Frag} {H : Hp} {a b : Addr} {zs ys : List Str} {Q : VK} (ha : SqL K H a (zs.map V.str)) (hb : SqL K H b (ys.map V.str)) (oz : ∀ z ∈ zs, PyData.strOk z = true) (oy : ∀ z ∈ ys, PyData.strOk z = true) (q : Q (.bl (decide (zs = ys))) H) : rEqD K (.ref a) (.ref b) H Q := by
  refine ⟨_, _, .lst ha (dpAll_strs zs), .lst hb (dpAll_strs ys), shaped_strs zs oz, shaped_strs ys oy, ?_⟩
  rw [eqv_strs]
  exact q
end NV
/-! L2a -/
set_option Elab.async false
set_option linter.all false
set_option maxRecDepth 100000
set_option maxHeartbeats 400000
namespace NV
open PySem PySem.Spec PyProof.Rows L2
open C8 (pss_cut)
def rNeNil (K : PySem.W.Frag) : R2 := fun x y H Q => ∃ (a b : Addr) (xs : List V), x = .ref a ∧ y = .ref b ∧ SqL K H a xs ∧ SqL K H b [] ∧ Q (.bl (!xs.isEmpty)) H
theorem op_neNil {X : Cx} (K : PySem.W.Frag) (hu : X.A.units + 64 < cLine) (hK : X.K = K := by rfl) : OpR X (compareOp .NotEq) (rNeNil K) := by
  subst hK
  intro pins s σ H x y v u Q I rx ry h
  obtain ⟨a, b, xs, rfl, rfl, ha, hb, q⟩ := h
  cases xs with
  | nil => exact op_neD hu pins s σ H _ _ v u Q I rx ry ⟨.list [], .list [], .lst ha .nil, .lst hb .nil, by decide, by decide, q⟩
  | cons z zs =>
    obtain rfl : v = Value.ref a := rx
    obtain rfl : u = Value.ref b := ry
    obtain ⟨its, rv, pl, _⟩ := I.list ha
    obtain ⟨its2, rv2, pl2, _⟩ := I.list hb
    cases rv2
    have hsz : (its.toArray.size != ([] : List Value).toArray.size) = true := by
      have := rv.length
      simp at this
      simp
      intro e
      rw [e] at this
      simp at this
    exact SeqAt.RcNeAt.lists_lengths pl.isList pl2.isList hsz (by omega) _ _ _ _ ⟨.bl true, H, I, rfl, q⟩
/-! ### comprehensions whose test and element lay things -/
theorem lc_growT {K : PySem.W.Frag} {tt : TT} {te : TE} {i : Nat} {σ : L2.St} {C a : Addr} {xs : List V} {H1 : Hp} {Qd : Hp → Prop} (p : Nat → Bool) (f : Nat → V) (hS : SqT K H1 a xs) (nC : H1 C = none) (hz : xs.length < 1000)
    (htt : ∀ (j : Nat) (x : V) (H : Hp) (Q : Bool → Hp → Prop), xs[j]? = some x → Kp [C] H1 H → (∀ H', Kp [] H H' → Q (p j) H') → tt ((wipe σ [i]).set i (some x)) H Q)
    (hte : ∀ (j : Nat) (x : V) (H : Hp) (Q : V → Hp → Prop), xs[j]? = some x → p j = true → Kp [C] H1 H → (∀ H', Kp [] H H' → Q (f j) H') → te ((wipe σ [i]).set i (some x)) H Q)
    (hd : ∀ H', Kp [C] H1 H' → H' C = some (.lst (((List.range xs.length).filter p).map f)) → Qd H') :
    ∃ W : Nat → Nat → Hp → Prop, (∃ m, W 0 m (upd H1 C (.lst []))) ∧ ∀ i' m H, W i' m H →
      ((Itt K a).stop i' H ∧ Qd H) ∨ ((Itt K a).go i' H ∧ ∃ Nx : Hp → Prop, (∀ H', Nx H' → ∃ m', m' < m ∧ W (i' + 1) m' H') ∧ ∀ x H', (Itt K a).yld i' H x H' → gName i x (wipe σ [i]) H' fun σ2 H2 => wipe σ2 [i] = wipe σ [i] ∧ tt σ2 H2 fun b H3 =>
        if b = true then te σ2 H3 fun y H4 => ∃ acc, H4 C = some (.lst acc) ∧ acc.length < sizeLine ∧ Nx (upd H4 C (.lst (acc ++ [y]))) else Nx H3) := by
  have aC : a ≠ C ∨ True := .inr trivial
  have sq : ∀ {H : Hp}, Kp [C] H1 H → SqT K H a xs := fun {H} k => by
    by_cases e : a = C
    · subst e
      rcases hS with (h | ⟨o, h⟩) | h
      · rw [nC] at h; cases h
      · rw [nC] at h; cases h
      · exact .inr h
    · exact Kp.seqT k (by simpa using e) hS
  refine lc_tup (K := K) (a := a) (xs := xs) (fun j H' => Kp [C] H1 H' ∧ H' C = some (.lst (((List.range j).filter p).map f))) ⟨Kp.laid nC, upd_same⟩ (fun j H' _ e => sq e.1) (fun j x H' hx e => ?_) (fun H' e => hd H' e.1 e.2)
  obtain ⟨k1, e1⟩ := e
  have hj : j < xs.length := (List.getElem?_eq_some_iff.mp hx).1
  refine ⟨wipe_again, htt j x _ _ hx k1 fun H2 k2 => ?_⟩
  have e2 := k2 _ _ (by simp) e1
  have k12 : Kp [C] H1 H2 := k1.trans (k2.mono (by simp))
  cases hp : p j with
  | true =>
    refine iteT (hte j x _ _ hx hp k12 fun H3 k3 => ⟨_, k3 _ _ (by simp) e2, ?_, ?_⟩)
    · have h1 : ((List.range j).filter p).length ≤ (List.range j).length := List.length_filter_le _ _
      rw [List.length_range] at h1
      rw [List.length_map]
      exact small1000 (by omega)
    · refine ⟨(k12.trans (k3.mono (by simp))).trans (Kp.put (by simp)), ?_⟩
      rw [upd_same, List.range_succ, List.filter_append, List.map_append, List.filter_cons_of_pos hp]
      rfl
  | false =>
    refine iteF ⟨k12, ?_⟩
    rw [e2, List.range_succ, List.filter_append, List.filter_cons_of_neg (by rw [hp]; exact Bool.false_ne_true)]
    simp
end NV
/-! G3 -/
set_option Elab.async false
set_option linter.all false
set_option maxRecDepth 100000
set_option maxHeartbeats 400000
namespace NV
open PySem PySem.Spec PyProof.Rows L2
open C8 (pss_cut)
/-! ### data that are within bounds -/
mutual
def niceD : PyData → Bool
  | .none => true
  | .bool _ => true
  | .int i => decide (i.natAbs.log2 < 1920)
  | .str z => decide (z.length ≤ 100) && PyData.strOk z
  | .list ds => niceAll ds
  | .tuple ds => niceAll ds
  | .dict kvs => kvs.isEmpty
def niceAll : List PyData → Bool
  | [] => true
  | d :: ds => niceD d && niceAll ds
end
theorem nice_mem : ∀ {ds : List PyData} {d : PyData}, niceAll ds = true → d ∈ ds → niceD d = true
  | e :: ds, d, h, hd => by
    simp only [niceAll, Bool.and_eq_true] at h
    rcases List.mem_cons.mp hd with z | z
    · rw [z]; exact h.1
    · exact nice_mem h.2 z
theorem nice_str {z : Str} (h : niceD (.str z) = true) : z.length ≤ 100 ∧ PyData.strOk z = true := by
  simp only [niceD, Bool.and_eq_true, decide_eq_true_eq] at h
  exact h
theorem nice_tup {ds : List PyData} (h : niceD (.tuple ds) = true) : ∀ d ∈ ds, niceD d = true := by
  simp only [niceD] at h
  exact fun d hd => nice_mem h hd
theorem RpAll.length {ex : List Addr} {H : Hp} : ∀ {ds : List PyData} {vs : List V}, RpAll ex H ds vs → ds.length = vs.length
  | [], _, h => by subst h; rfl
  | d :: ds, _, ⟨v, ws, e, _, h2⟩ => by
    subst e
    rw [List.length_cons, List.length_cons, RpAll.length h2]
theorem RpAll.at {ex : List Addr} {H : Hp} : ∀ {ds : List PyData} {vs : List V} {j : Nat} {d : PyData}, RpAll ex H ds vs → ds[j]? = some d → ∃ v, vs[j]? = some v ∧ Rp ex H d v
  | [], _, j, d, _, hj => by simp at hj
  | e :: ds, _, 0, d, ⟨v, ws, ev, h1, _⟩, hj => by
    subst ev
    simp at hj
    subst hj
    exact ⟨v, rfl, h1⟩
  | e :: ds, _, j + 1, d, ⟨v, ws, ev, _, h2⟩, hj => by
    subst ev
    obtain ⟨u, hu, hr⟩ := RpAll.at h2 (by simpa using hj)
    exact ⟨u, by simpa using hu, hr⟩
/-- the texts among data -/
def textsOf : List PyData → List Str
  | [] => []
  | .str z :: ds => z :: textsOf ds
  | _ :: ds => textsOf ds
theorem texts_all {m : Nat} {b : Bool} {ex : List Addr} {H : Hp} : ∀ {ds : List PyData} {vs : List V}, RpAll ex H ds vs → ds.all (wordD m b) = true → vs = (textsOf ds).map V.str ∧ ds = (textsOf ds).map PyData.str
  | [], _, h, _ => by subst h; exact ⟨rfl, rfl⟩
  | d :: ds, _, ⟨v, ws, e, h1, h2⟩, ha => by
    subst e
    rw [List.all_cons, Bool.and_eq_true] at ha
    obtain ⟨e1, e2⟩ := texts_all h2 ha.2
    cases d with
    | str z =>
      obtain rfl : v = .str z := h1
      refine ⟨?_, ?_⟩
      · show V.str z :: ws = V.str z :: (textsOf ds).map V.str
        rw [← e1]
      · show PyData.str z :: ds = PyData.str z :: (textsOf ds).map PyData.str
        rw [← e2]
    | _ => exact absurd ha.1 (by simp [wordD])
/-- a rising tuple of least to 3 cells -/
def cellsD (least : Nat) : PyData → Bool
  | .tuple ds => decide (least ≤ ds.length) && decide (ds.length ≤ 3) && ds.all (wordD 4 false) && decide (Asc (textsOf ds))
  | _ => false
theorem tup_of_isD {d : PyData} (h : isD "tuple" d = true) : ∃ ds, d = .tuple ds := by
  cases d with
  | tuple ds => exact ⟨ds, rfl⟩
  | _ => exact absurd (show (_ : Bool) = true from h) (by simp [isD, tyN])
theorem cellsD_no {d : PyData} {l : Nat} (h : isD "tuple" d = false) : cellsD l d = false := by
  cases d with
  | tuple ds => exact absurd h (by simp [isD, tyN])
  | _ => rfl
end NV
/-! ReprEq -/
set_option Elab.async false
set_option linter.all false
set_option maxRecDepth 100000
set_option maxHeartbeats 600000
/-! which data show as a given plain text in quotes -/
namespace NV
open PySem PySem.Spec PyProof.Rows L2
open PySem.Builtin.Str (reprChar)
theorem cat_list (x y : Str) : (x ++ y).cps.toList = x.cps.toList ++ y.cps.toList := by
  show (x.cps ++ y.cps).toList = _
  rw [Array.toList_append]
theorem from_pre : ∀ (ts : List Str) (k : Nat) (acc : Str), ∃ r, (textFrom k acc ts).cps.toList = acc.cps.toList ++ r
  | [], k, acc => ⟨[], by show acc.cps.toList = _; rw [List.append_nil]⟩
  | t :: ts, k, acc => by
    obtain ⟨r, hr⟩ := from_pre ts (k + 1) (acc ++ (if k > 0 then ", " else "" : String) ++ t)
    refine ⟨(Str.ofString (if k > 0 then ", " else "")).cps.toList ++ t.cps.toList ++ r, ?_⟩
    show (textFrom (k + 1) (acc ++ (if k > 0 then ", " else "" : String) ++ t) ts).cps.toList = _
    rw [hr, cat_list, cat_list]
    simp only [List.append_assoc]
theorem char_own {q c : Nat} (h : 92 ∉ reprChar q c) : reprChar q c = [c] := by
  unfold reprChar at h ⊢
  split at h
  · simp at h
  split at h
  · simp at h
  split at h
  · simp at h
  split at h
  · simp at h
  split at h
  · simp_all
  split at h
  · simp at h
  split at h
  · simp at h
  · simp at h
theorem fold_list (q : Nat) : ∀ (l : List Nat) (acc : Array Nat), (l.foldl (fun out c => out ++ (reprChar q c).toArray) acc).toList = acc.toList ++ l.flatMap (reprChar q)
  | [], acc => by simp
  | c :: l, acc => by
    rw [List.foldl_cons, fold_list q l]
    simp
theorem repr_list (z : Str) : (reprText z).cps.toList = reprQuote z :: (z.cps.toList.flatMap (reprChar (reprQuote z)) ++ [reprQuote z]) := by
  unfold reprText
  show (Array.push _ _).toList = _
  rw [Array.toList_push, ← Array.foldl_toList, fold_list]
  simp
theorem flat_own {q : Nat} : ∀ {l m : List Nat}, 92 ∉ m → l.flatMap (reprChar q) = m → l = m
  | [], m, _, h => by simpa using h
  | c :: l, m, hm, h => by
    rw [List.flatMap_cons] at h
    have h1 : 92 ∉ reprChar q c := fun x => hm (by rw [← h]; exact List.mem_append_left _ x)
    rw [char_own h1] at h
    cases m with
    | nil => simp at h
    | cons b m =>
      simp only [List.cons_append, List.nil_append, List.cons.injEq] at h
      rw [h.1, flat_own (fun x => hm (List.mem_cons_of_mem _ x)) h.2]
/-- data that show as 'x', x without signs that are written otherwise -/
theorem shown_quoted {d : PyData} {x : Str} (h92 : 92 ∉ x.cps.toList) (h : d.shown.cps.toList = 39 :: (x.cps.toList ++ [39])) : d = .str x := by
  have hd : ∀ {c : Nat} {r : List Nat}, d.shown.cps.toList = c :: r → c = 39 := fun e => by
    rw [h] at e
    exact (List.cons.inj e).1.symm
  cases d with
  | none =>
    have e : PyData.none.shown.cps.toList = 78 :: [111, 110, 101] := by simp only [PyData.shown]; decide
    exact absurd (hd e) (by decide)
  | bool b =>
    cases b with
    | true =>
      have e : (PyData.bool true).shown.cps.toList = 84 :: [114, 117, 101] := by simp only [PyData.shown]; decide
      exact absurd (hd e) (by decide)
    | false =>
      have e : (PyData.bool false).shown.cps.toList = 70 :: [97, 108, 115, 101] := by simp only [PyData.shown]; decide
      exact absurd (hd e) (by decide)
  | int i =>
    have := int_text_free' 39 ⟨by decide, by decide⟩ i
    simp only [PyData.shown] at h
    rw [h] at this
    simp at this
  | str z =>
    simp only [PyData.shown] at h
    rw [repr_list] at h
    obtain ⟨h1, h2⟩ := List.cons.inj h
    have h3 := List.append_inj_left' h2 rfl
    have := flat_own h92 h3
    exact congrArg PyData.str (ext_toList this)
  | list ds =>
    obtain ⟨r, hr⟩ := from_pre (PyData.shownAll ds) 0 "["
    have e : (PyData.list ds).shown.cps.toList = 91 :: (r ++ [93]) := by
      simp only [PyData.shown]
      unfold listText
      rw [cat_list, hr]
      rfl
    exact absurd (hd e) (by decide)
  | tuple ds =>
    have e : ∃ r, (PyData.tuple ds).shown.cps.toList = 40 :: r := by
      simp only [PyData.shown]
      unfold tupleText
      rw [cat_list, cat_list]
      exact ⟨_, rfl⟩
    obtain ⟨r, e⟩ := e
    exact absurd (hd e) (by decide)
  | dict kvs =>
    have e : ∃ r, (PyData.dict kvs).shown.cps.toList = 123 :: r := by
      simp only [PyData.shown]
      unfold dictText
      rw [cat_list, cat_list]
      exact ⟨_, rfl⟩
    obtain ⟨r, e⟩ := e
    exact absurd (hd e) (by decide)
theorem shown_query {d : PyData} : d.shown = ("'query'" : Str) ↔ d = .str "query" := by
  refine ⟨fun h => shown_quoted (by decide) (by rw [h]; decide), fun h => ?_⟩
  subst h
  simp only [PyData.shown]
  decide +kernel
theorem shown_write {d : PyData} : d.shown = ("'write'" : Str) ↔ d = .str "write" := by
  refine ⟨fun h => shown_quoted (by decide) (by rw [h]; decide), fun h => ?_⟩
  subst h
  simp only [PyData.shown]
  decide +kernel
end NV
/-! G4 -/
set_option Elab.async false
set_option linter.all false
set_option maxRecDepth 100000
set_option maxHeartbeats 400000
namespace NV
open PySem PySem.Spec PyProof.Rows L2
open C8 (pss_cut)
mutual
theorem show_of_nice : ∀ d : PyData, niceD d = true → d.showable = true
  | .none, _ => by simp only [PyData.showable]
  | .bool _, _ => by simp only [PyData.showable]
  | .str _, _ => by simp only [PyData.showable]
  | .int i, h => by simpa only [PyData.showable, niceD] using h
  | .list ds, h => by
    simp only [niceD] at h
    simp only [PyData.showable]
    exact shows_of_nice ds h
  | .tuple ds, h => by
    simp only [niceD] at h
    simp only [PyData.showable]
    exact shows_of_nice ds h
  | .dict kvs, h => by
    simp only [niceD] at h
    cases kvs with
    | nil => simp only [PyData.showable, PyData.showableKv]
    | cons x r => simp at h
theorem shows_of_nice : ∀ ds : List PyData, niceAll ds = true → PyData.showableAll ds = true
  | [], _ => by simp only [PyData.showableAll]
  | d :: ds, h => by
    simp only [niceAll, Bool.and_eq_true] at h
    simp only [PyData.showableAll, Bool.and_eq_true]
    exact ⟨show_of_nice d h.1, shows_of_nice ds h.2⟩
end
/-! ### how long data show -/
mutual
def vol : PyData → Nat
  | .none => 5
  | .bool _ => 5
  | .int i => i.natAbs.log2 + 2
  | .str z => 10 * z.length + 2
  | .list ds => volAll ds + 3
  | .tuple ds => volAll ds + 3
  | .dict _ => 2
def volAll : List PyData → Nat
  | [] => 0
  | d :: ds => vol d + 2 + volAll ds
end
theorem join_le : ∀ ts : List Str, (Str.join ", " ts).length ≤ piled ts
  | [] => Nat.zero_le _
  | t :: ts => by
    have := join_length_add (t :: ts) (by simp)
    omega
theorem vol_nat {i : Int} : ((toString i : String) : Str).length ≤ i.natAbs.log2 + 2 := by
  have h := int_text_length_le (a := i) (k := i.natAbs.log2 + 1) (by omega) (by omega)
  rw [PySem.ofString_length]
  omega
theorem list_text_le : ∀ ts : List Str, (listText ts).length ≤ piled ts + 2
  | [] => by rw [listText_nil]; decide
  | t :: r => by
    have h := textFrom_length_pos r 1 (("[" : Str) ++ (if (0 : Nat) > 0 then ", " else "" : String) ++ t) (Nat.succ_pos 0)
    have e : ((("[" : Str) ++ (if (0 : Nat) > 0 then ", " else "" : String) ++ t)).length = 1 + t.length := by
      rw [strLen_append, strLen_append]
      rfl
    have e2 : (listText (t :: r)).length = (textFrom 1 (("[" : Str) ++ (if (0 : Nat) > 0 then ", " else "" : String) ++ t) r).length + 1 := by
      show (textFrom 1 (("[" : Str) ++ (if (0 : Nat) > 0 then ", " else "" : String) ++ t) r ++ "]").length = _
      rw [strLen_append]
      rfl
    rw [e2, h, e, piled_cons]
    omega
theorem tuple_text_le (ts : List Str) : (tupleText ts).length ≤ piled ts + 3 := by
  have h := join_le ts
  unfold tupleText
  rw [strLen_append, strLen_append]
  have e1 : ("(" : Str).length = 1 := rfl
  have e2 : (Str.ofString (if (ts.length == 1) = true then ",)" else ")")).length ≤ 2 := by split <;> decide
  omega
mutual
theorem shown_le : ∀ d : PyData, niceD d = true → d.shown.length ≤ vol d
  | .none, _ => by simp only [PyData.shown, vol]; decide
  | .bool b, _ => by simp only [PyData.shown, vol]; cases b <;> decide
  | .str z, h => by
    simp only [PyData.shown, vol]
    refine StrLaws.reprText_len z fun c hc => ?_
    have := (nice_str h).2
    unfold PyData.strOk at this
    rw [Array.all_eq_true_iff_forall_mem] at this
    have h2 := this c (by simpa using hc)
    have h3 : c < 0x110000 := by simpa using h2
    omega
  | .int i, h => by
    simp only [PyData.shown, vol]
    exact vol_nat
  | .list ds, h => by
    simp only [niceD] at h
    simp only [PyData.shown, vol]
    have h1 := piled_le ds h
    have h2 := list_text_le (PyData.shownAll ds)
    omega
  | .tuple ds, h => by
    simp only [niceD] at h
    simp only [PyData.shown, vol]
    have h1 := piled_le ds h
    have h2 := tuple_text_le (PyData.shownAll ds)
    omega
  | .dict kvs, h => by
    simp only [niceD] at h
    cases kvs with
    | nil => simp only [PyData.shown, PyData.shownKv, vol]; decide
    | cons x r => simp at h
theorem piled_le : ∀ ds : List PyData, niceAll ds = true → piled (PyData.shownAll ds) ≤ volAll ds
  | [], _ => by simp only [PyData.shownAll, volAll]; decide
  | d :: ds, h => by
    simp only [niceAll, Bool.and_eq_true] at h
    have h1 := shown_le d h.1
    have h2 := piled_le ds h.2
    simp only [PyData.shownAll, volAll]
    rw [piled_cons]
    omega
end
/-- data within all bounds -/
structure Good (d : PyData) : Prop where
  nice : niceD d = true
  deep : d.depth ≤ 64
  small : vol d ≤ 1000000
theorem Good.fits {d : PyData} (g : Good d) : d.shown.length ≤ sizeLine := by
  have := shown_le d g.nice
  have := g.small
  rw [sizeLine_eq]
  omega
theorem vol_mem : ∀ {ds : List PyData} {d : PyData}, d ∈ ds → vol d ≤ volAll ds
  | e :: ds, d, h => by
    simp only [volAll]
    rcases List.mem_cons.mp h with z | z
    · rw [z]; omega
    · have := vol_mem z
      omega
theorem shown_mem : ∀ {ds : List PyData} {d : PyData}, d ∈ ds → d.shown ∈ PyData.shownAll ds
  | e :: ds, d, h => by
    simp only [PyData.shownAll]
    rcases List.mem_cons.mp h with z | z
    · rw [z]; exact List.mem_cons_self
    · exact List.mem_cons_of_mem _ (shown_mem z)
theorem depth_mem : ∀ {ds : List PyData} {d : PyData}, d ∈ ds → d.depth ≤ PyData.depthAll ds
  | e :: ds, d, h => by
    simp only [PyData.depthAll]
    rcases List.mem_cons.mp h with z | z
    · rw [z]; exact Nat.le_max_left _ _
    · exact Nat.le_trans (depth_mem z) (Nat.le_max_right _ _)
theorem Good.item {ds : List PyData} {d : PyData} (g : Good (.tuple ds)) (h : d ∈ ds) : Good d := by
  refine ⟨nice_tup g.nice d h, ?_, ?_⟩
  · have h1 := g.deep
    simp only [PyData.depth] at h1
    have := depth_mem h
    omega
  · have h1 := g.small
    simp only [vol] at h1
    have := vol_mem h
    omega
def priceD : PyData → Bool
  | .none => true
  | .int i => decide (0 < i) && decide (i < 100)
  | _ => false
def strD (x : Str) (d : PyData) : Bool := match d with
  | .str z => decide (z = x)
  | _ => false
theorem strD_iff {x : Str} {d : PyData} : strD x d = true ↔ d = .str x := by
  cases d <;> simp [strD]
/-- an entry -/
def entryD : PyData → Bool
  | .tuple [k, i, c] => wordD 6 true i && strD "query" k && cellsD 1 c
  | .tuple [k, i, r, s, p] => wordD 6 true i && strD "write" k && cellsD 0 r && cellsD 1 s && priceD p
  | _ => false
theorem entryD_no {d : PyData} (h : isD "tuple" d = false) : entryD d = false := by
  cases d with
  | tuple ds => exact absurd h (by simp [isD, tyN])
  | _ => rfl
theorem entryD_short {ds : List PyData} (h : ds.length < 3) : entryD (.tuple ds) = false := by
  match ds, h with
  | [], _ => rfl
  | [_], _ => rfl
  | [_, _], _ => rfl
theorem ixD {K : PySem.W.Frag} {ex : List Addr} {H : Hp} {a : Addr} {xs : List V} {ds : List PyData} {d : PyData} {j : Nat} {i : Int} {Q : VK} (ei : i = (j : Int)) (ha : H a = some (.tup xs)) (hx : RpAll ex H ds xs) (hj : ds[j]? = some d) (q : ∀ v, Rp ex H d v → Q v H) : rIxT K (.ref a) (.int i) H Q := by
  obtain ⟨v, hv, hr⟩ := RpAll.at hx hj
  subst ei
  exact ⟨a, xs, _, v, rfl, rfl, .inl (.inl ha), atI_nat hv, q v hr⟩
theorem entryD_word {k i c : PyData} {r : List PyData} (h : wordD 6 true i = false) : entryD (.tuple (k :: i :: c :: r)) = false := by
  match r with
  | [] => show (wordD 6 true i && strD "query" k && cellsD 1 c) = false; rw [h]; rfl
  | [_] => rfl
  | [s, p] => show (wordD 6 true i && strD "write" k && cellsD 0 c && cellsD 1 s && priceD p) = false; rw [h]; rfl
  | _ :: _ :: _ :: _ => rfl
theorem entryD_kind {k i c : PyData} {r : List PyData} (h1 : strD "query" k = false) (h2 : strD "write" k = false) : entryD (.tuple (k :: i :: c :: r)) = false := by
  match r with
  | [] => show (wordD 6 true i && strD "query" k && cellsD 1 c) = false; rw [h1]; simp
  | [_] => rfl
  | [s, p] => show (wordD 6 true i && strD "write" k && cellsD 0 c && cellsD 1 s && priceD p) = false; rw [h2]; simp
  | _ :: _ :: _ :: _ => rfl
theorem entryD_size {k i c : PyData} {r : List PyData} (h : r.length ≠ 0) (h2 : r.length ≠ 2) : entryD (.tuple (k :: i :: c :: r)) = false := by
  match r, h, h2 with
  | [_], _, _ => rfl
  | _ :: _ :: _ :: _, _, _ => rfl
theorem dec_v (a b : Str) : decide (V.str a = V.str b) = decide (a = b) := by simp
def intP : PyData → Bool
  | .int z => decide (0 < z) && decide (z < 100)
  | _ => false
theorem price_val {σ : L2.St} {H : Hp} {Q : VK} {p : PyData} {vp : V} {ex : List Addr} (rp : Rp ex H p vp) (h : σ[1]? = some (some vp)) (q : Q (.bl (intP p)) H) :
    tAndV (tCB (rIsD "int") (tCons (tVar 1) (tCons (tC (V.ty "int")) tNil))) (tAndV (tNotV (tCB (rIsD "bool") (tCons (tVar 1) (tCons (tC (V.ty "bool")) tNil)))) (tChain (rI0 fun i j => V.bl (decide (i < j))) (rI0 fun i j => V.bl (decide (i < j))) (tC (V.int 0)) (tVar 1) (tC (V.int 100)))) σ H Q := by
  refine ⟨vp, h, vp, p, ex, rfl, rp, _, rfl, ?_⟩
  cases p with
  | int z =>
    obtain rfl : vp = .int z := rp
    refine iteT ⟨.int z, h, .int z, .int z, ex, rfl, rfl, _, rfl, _, rfl, ?_⟩
    refine iteT ⟨_, h, 0, z, rfl, rfl, _, rfl, ?_⟩
    have e : intP (.int z) = (decide (0 < z) && decide (z < 100)) := rfl
    rw [e] at q
    cases h1 : decide (0 < z) with
    | true =>
      rw [h1] at q
      exact iteT ⟨z, 100, rfl, rfl, q⟩
    | false =>
      rw [h1] at q
      exact iteF q
  | bool b =>
    obtain rfl : vp = .bl b := rp
    refine iteT ⟨.bl b, h, .bl b, .bool b, ex, rfl, rfl, _, rfl, _, rfl, ?_⟩
    exact iteF q
  | none => exact iteF q
  | str z => exact iteF q
  | list ds => exact iteF q
  | tuple ds => exact iteF q
  | dict kvs => exact iteF q
theorem price_eq {p : PyData} {vp : V} {ex : List Addr} {H : Hp} (rp : Rp ex H p vp) : priceD p = (decide (vp = .non) || intP p) := by
  cases p with
  | none =>
    obtain rfl : vp = .non := rp
    rfl
  | int z =>
    obtain rfl : vp = .int z := rp
    simp [priceD, intP]
  | bool b =>
    obtain rfl : vp = .bl b := rp
    simp [priceD, intP]
  | str z =>
    obtain rfl : vp = .str z := rp
    simp [priceD, intP]
  | list ds =>
    obtain ⟨a, xs, rfl, _⟩ := rp
    simp [priceD, intP]
  | tuple ds =>
    obtain ⟨a, xs, rfl, _⟩ := rp
    simp [priceD, intP]
  | dict kvs =>
    obtain ⟨_, a, rfl, _⟩ := rp
    simp [priceD, intP]
end NV
/-! G5 -/
set_option Elab.async false
set_option linter.all false
set_option maxRecDepth 100000
set_option maxHeartbeats 400000
namespace NV
open PySem PySem.Spec PyProof.Rows L2
open C8 (pss_cut)
/-- the id of an entry -/
def idOfD : PyData → Str
  | .tuple (_ :: .str z :: _) => z
  | _ => ""
def logD' : PyData → Bool
  | .tuple ds => decide (ds.length ≤ 60) && ds.all entryD && decide ((ds.map idOfD).Nodup)
  | _ => false
theorem logD'_no {d : PyData} (h : isD "tuple" d = false) : logD' d = false := by
  cases d with
  | tuple ds => exact absurd h (by simp [isD, tyN])
  | _ => rfl
/-- what an entry looks like -/
theorem entry_shape {d : PyData} (h : entryD d = true) : ∃ k z r, d = .tuple (k :: .str z :: r) ∧ idB z = true := by
  have word : ∀ {i : PyData}, wordD 6 true i = true → ∃ z, i = .str z ∧ idB z = true := fun {i} hw => by
    cases i with
    | str z => exact ⟨z, rfl, hw⟩
    | _ => exact absurd hw (by simp [wordD])
  match d, h with
  | .tuple [k, i, c], h =>
    have h : (wordD 6 true i && strD "query" k && cellsD 1 c) = true := h
    simp only [Bool.and_eq_true] at h
    obtain ⟨z, rfl, hz⟩ := word h.1.1
    exact ⟨k, z, _, rfl, hz⟩
  | .tuple [k, i, r, s, p], h =>
    have h : (wordD 6 true i && strD "write" k && cellsD 0 r && cellsD 1 s && priceD p) = true := h
    simp only [Bool.and_eq_true] at h
    obtain ⟨z, rfl, hz⟩ := word h.1.1.1.1
    exact ⟨k, z, _, rfl, hz⟩
  | .tuple [], h => exact absurd h (by simp [entryD])
  | .tuple [_], h => exact absurd h (by simp [entryD])
  | .tuple [_, _], h => exact absurd h (by simp [entryD])
  | .tuple [_, _, _, _], h => exact absurd h (by simp [entryD])
  | .tuple (_ :: _ :: _ :: _ :: _ :: _ :: _), h => exact absurd h (by simp [entryD])
  | .none, h => exact absurd h (by simp [entryD])
  | .bool _, h => exact absurd h (by simp [entryD])
  | .int _, h => exact absurd h (by simp [entryD])
  | .str _, h => exact absurd h (by simp [entryD])
  | .list _, h => exact absurd h (by simp [entryD])
  | .dict _, h => exact absurd h (by simp [entryD])
end NV
/-! G6 -/
set_option Elab.async false
set_option linter.all false
set_option maxRecDepth 100000
set_option maxHeartbeats 600000
namespace NV
open PySem PySem.Spec PyProof.Rows L2
open C8 (pss_cut)
def oddDs : List PyData := [.none, .bool true, .bool false, .int 0, .int 1, .int 99, .int 100, .int (-1), .str "", .str "a", .str "A", .str "abcd", .str "abcde", .str "zzzzzz", .str "zzzzzzz", .str "a b", .str "1", .dict [],
  .str "write", .str "query", .tuple [], .tuple [.str "a"], .tuple [.str "a", .str "b"], .tuple [.str "b", .str "a"], .tuple [.str "a", .str "a"], .tuple [.str "a", .str "b", .str "c", .str "q"], .list [.str "a"], .int (10 ^ 30)]
theorem odd_ok : ∀ d ∈ oddDs, niceD d = true ∧ d.depth ≤ 1 ∧ vol d ≤ 200 := by decide +kernel
theorem RpAll.back {ex : List Addr} {H : Hp} : ∀ {ds : List PyData} {vs : List V} {j : Nat} {v : V}, RpAll ex H ds vs → vs[j]? = some v → ∃ d, ds[j]? = some d ∧ Rp ex H d v
  | [], _, j, v, h, hj => by
    subst h
    simp at hj
  | e :: ds, _, 0, v, ⟨u, ws, ev, h1, _⟩, hj => by
    subst ev
    simp at hj
    subst hj
    exact ⟨e, rfl, h1⟩
  | e :: ds, _, j + 1, v, ⟨u, ws, ev, _, h2⟩, hj => by
    subst ev
    obtain ⟨d, hd, hr⟩ := RpAll.back h2 (by simpa using hj)
    exact ⟨d, by simpa using hd, hr⟩
theorem rp_new {ex : List Addr} {H : Hp} {p : Addr} {xs : List V} {ds : List PyData} (hp : p ∉ ex) (np : H p = none) (h : RpAll ex H ds xs) : Rp ex (upd H p (.tup xs)) (.tuple ds) (.ref p) := ⟨p, xs, rfl, hp, upd_same, RpAll.keep (Kp.laid np) _ _ h⟩
theorem rp_newL {ex : List Addr} {H : Hp} {p : Addr} {xs : List V} {ds : List PyData} (hp : p ∉ ex) (np : H p = none) (h : RpAll ex H ds xs) : Rp ex (upd H p (.lst xs)) (.list ds) (.ref p) := ⟨p, xs, rfl, hp, upd_same, RpAll.keep (Kp.laid np) _ _ h⟩
end NV
/-! G7 -/
set_option Elab.async false
set_option linter.all false
set_option maxRecDepth 100000
set_option maxHeartbeats 600000
namespace NV
open PySem PySem.Spec PyProof.Rows L2
open C8 (pss_cut)
/-! ### () == t, slices, sums of tuples of any length -/
def rEqNilT (K : PySem.W.Frag) : R2 := fun x y H Q => ∃ (a b : Addr) (xs : List V), x = .ref a ∧ y = .ref b ∧ SqT K H a xs ∧ SqT K H b [] ∧ Q (.bl xs.isEmpty) H
theorem op_eqNilT {X : Cx} (K : PySem.W.Frag) (hu : X.A.units + 64 < cLine) (hK : X.K = K := by rfl) : OpR X (compareOp .Eq) (rEqNilT K) := by
  subst hK
  intro pins s σ H x y v u Q I rx ry h
  obtain ⟨a, b, xs, rfl, rfl, ha, hb, q⟩ := h
  obtain rfl : v = Value.ref a := rx
  obtain rfl : u = Value.ref b := ry
  obtain ⟨its, rv, pl, _⟩ := I.tuple ha
  obtain ⟨its2, rv2, pl2, _⟩ := I.tuple hb
  cases rv2
  refine SeqAt.eq_tupleAt (e := fun _ => true) pl pl2 (by omega) (fun j h1 h2 => absurd h2 (by simp)) ⟨.bl xs.isEmpty, H, I, ?_, q⟩
  show Value.bool _ = Value.bool _
  have hl := rv.length
  cases xs with
  | nil =>
    cases its with
    | nil => rfl
    | cons z zs => simp at hl
  | cons y ys =>
    cases its with
    | nil => simp at hl
    | cons z zs => simp
theorem no_part {σ : L2.St} {H : Hp} {Q : Option Int → Hp → Prop} (h : Q none H) : tNoPart σ H Q := h
theorem slA {K : PySem.W.Frag} {ex : List Addr} {H : Hp} {a : Addr} {xs : List V} {lo hi : Option Int} {Q : VK} (ha : H a = some (.tup xs)) (na : a ∉ ex) (fr : ∀ p, H p = none → p ∉ ex)
    (q : ∀ p H', Kp [] H H' → H' p = some (.tup (cutV xs lo hi)) → p ∉ ex → Q (.ref p) H') : rSlA K (.ref a) lo hi H Q := by
  refine ⟨a, xs, rfl, .inl (.inl ha), fun w => q a H Kp.refl ?_ na, fun w p np => q p _ (Kp.laid np) upd_same (fr p np)⟩
  unfold cutV
  rw [w.1, w.2, List.drop_zero, Nat.sub_zero, List.take_length]
  exact ha
theorem catA {K : PySem.W.Frag} {ex : List Addr} {H : Hp} {a b : Addr} {xs ys : List V} {Q : VK} (ha : H a = some (.tup xs)) (hb : H b = some (.tup ys)) (na : a ∉ ex) (nb : b ∉ ex) (fr : ∀ p, H p = none → p ∉ ex) (hz : xs.length + ys.length ≤ sizeLine)
    (q : ∀ p H', Kp [] H H' → H' p = some (.tup (xs ++ ys)) → p ∉ ex → Q (.ref p) H') : rCatA K (.ref a) (.ref b) H Q := by
  refine ⟨a, b, xs, ys, rfl, rfl, .inl (.inl ha), .inl (.inl hb), hz, fun e => ?_, fun _ e => ?_, fun _ _ p np => q p _ (Kp.laid np) upd_same (fr p np)⟩
  · subst e
    exact q b H Kp.refl hb nb
  · subst e
    exact q a H Kp.refl (by rw [List.append_nil]; exact ha) na
theorem cut_from (xs : List V) (k : Nat) : cutV xs (some (k : Int)) none = xs.drop k := by
  unfold cutV
  rw [HT.sIx_none, HT.sIx_nat]
  rcases Nat.le_total k xs.length with h | h
  · rw [Nat.min_eq_left h, List.take_of_length_le (by rw [List.length_drop]; omega)]
  · rw [Nat.min_eq_right h, List.drop_length, List.drop_eq_nil_of_le h]
    simp
theorem cut_after (xs : List V) (k : Nat) : cutV xs (some ((k : Int) + 1)) none = xs.drop (k + 1) := cut_from xs (k + 1)
theorem cut_one (xs : List V) (k : Nat) : cutV xs (some (k : Int)) (some ((k : Int) + 1)) = (xs.drop k).take 1 := by
  unfold cutV
  rw [show (k : Int) + 1 = ((k + 1 : Nat) : Int) by omega, HT.sIx_nat, HT.sIx_nat]
  rcases Nat.lt_or_ge k xs.length with h | h
  · rw [Nat.min_eq_left (by omega), Nat.min_eq_left (by omega)]
    congr 1
    omega
  · rw [Nat.min_eq_right h, Nat.min_eq_right (by omega), List.drop_length, List.drop_eq_nil_of_le h]
    simp
/-! ### data cut and put together -/
theorem RpAll.cutT {ex : List Addr} {H : Hp} : ∀ {ds : List PyData} {xs : List V} (k : Nat), RpAll ex H ds xs → RpAll ex H (ds.take k) (xs.take k) ∧ RpAll ex H (ds.drop k) (xs.drop k)
  | ds, xs, 0, h => by
    refine ⟨?_, ?_⟩
    · show RpAll ex H [] _
      rfl
    · simpa using h
  | [], _, k + 1, h => by
    subst h
    exact ⟨rfl, rfl⟩
  | d :: ds, _, k + 1, ⟨v, ws, e, h1, h2⟩ => by
    subst e
    obtain ⟨a, b⟩ := RpAll.cutT k h2
    exact ⟨⟨v, ws.take k, rfl, h1, a⟩, b⟩
theorem nice_of_mem : ∀ {ds : List PyData}, (∀ d ∈ ds, niceD d = true) → niceAll ds = true
  | [], _ => by simp only [niceAll]
  | d :: ds, h => by
    simp only [niceAll, Bool.and_eq_true]
    exact ⟨h d List.mem_cons_self, nice_of_mem fun e he => h e (List.mem_cons_of_mem _ he)⟩
theorem depth_of_mem {m : Nat} : ∀ {ds : List PyData}, (∀ d ∈ ds, d.depth ≤ m) → PyData.depthAll ds ≤ m
  | [], _ => by simp only [PyData.depthAll]; omega
  | d :: ds, h => by
    simp only [PyData.depthAll]
    exact Nat.max_le.mpr ⟨h d List.mem_cons_self, depth_of_mem fun e he => h e (List.mem_cons_of_mem _ he)⟩
theorem vol_app : ∀ (ds es : List PyData), volAll (ds ++ es) = volAll ds + volAll es
  | [], es => by simp only [List.nil_append, volAll]; omega
  | d :: ds, es => by
    simp only [List.cons_append, volAll, vol_app ds es]
    omega
theorem vol_cut (ds : List PyData) (k : Nat) : volAll (ds.take k) + volAll (ds.drop k) = volAll ds := by
  rw [← vol_app, List.take_append_drop]
theorem vol_at {ds : List PyData} {k : Nat} {d : PyData} (h : ds[k]? = some d) : volAll (ds.drop k) = vol d + 2 + volAll (ds.drop (k + 1)) := by
  obtain ⟨hk, rfl⟩ := List.getElem?_eq_some_iff.mp h
  rw [List.drop_eq_getElem_cons hk]
  simp only [volAll]
theorem len_vol : ∀ ds : List PyData, ds.length ≤ volAll ds
  | [] => Nat.zero_le _
  | d :: ds => by
    have := len_vol ds
    simp only [volAll, List.length_cons]
    omega
end NV
/-! L8 -/
set_option Elab.async false
set_option linter.all false
set_option maxRecDepth 100000
set_option maxHeartbeats 600000
/-! what the law's logs are as data -/
namespace NV
open PySem PySem.Spec PyProof.Rows L2
theorem texts_map : ∀ zs : List Str, textsOf (zs.map PyData.str) = zs
  | [] => rfl
  | z :: zs => by
    show z :: textsOf (zs.map PyData.str) = _
    rw [texts_map zs]
theorem cells_data {l : Nat} {cs : List Str} (h : CellsOk l cs) : cellsD l (.tuple (cs.map .str)) = true := by
  show (decide (l ≤ (cs.map PyData.str).length) && decide ((cs.map PyData.str).length ≤ 3) && (cs.map PyData.str).all (wordD 4 false) && decide (Asc (textsOf (cs.map PyData.str)))) = true
  rw [texts_map, List.length_map, decide_eq_true h.lo, decide_eq_true h.hi, decide_eq_true h.asc, Bool.and_true, Bool.true_and, Bool.true_and, List.all_eq_true]
  intro d hd
  obtain ⟨z, hz, rfl⟩ := List.mem_map.mp hd
  exact h.ok z hz
theorem entry_data {e : Ent} (h : e.Ok) : entryD e.data = true := by
  cases e with
  | wr id rs ws pr =>
    obtain ⟨h1, h2, h3, h4⟩ := h
    show (wordD 6 true (.str id) && strD "write" (.str "write") && cellsD 0 (.tuple (rs.map .str)) && cellsD 1 (.tuple (ws.map .str)) && priceD (prD pr)) = true
    have hp : priceD (prD pr) = true := by
      cases pr with
      | none => rfl
      | some i =>
        obtain ⟨a, b⟩ := h4 i rfl
        show (decide (0 < i) && decide (i < 100)) = true
        simp
        omega
    rw [cells_data h2, cells_data h3, hp, show wordD 6 true (.str id) = true from h1, strD_iff.mpr rfl]
    rfl
  | qu id cs =>
    obtain ⟨h1, h2⟩ := h
    show (wordD 6 true (.str id) && strD "query" (.str "query") && cellsD 1 (.tuple (cs.map .str))) = true
    rw [cells_data h2, show wordD 6 true (.str id) = true from h1, strD_iff.mpr rfl]
    rfl
theorem id_data (e : Ent) : idOfD e.data = e.id := by cases e <;> rfl
theorem ids_data (es : List Ent) : (es.map Ent.data).map idOfD = es.map Ent.id := by
  rw [List.map_map]
  exact List.map_congr_left fun e _ => id_data e
/-- a list of right entries is a log if few and of different ids -/
theorem log_data {es : List Ent} (h : ∀ e ∈ es, e.Ok) : logD' (.tuple (es.map Ent.data)) = (decide (es.length ≤ 60) && decide ((es.map Ent.id).Nodup)) := by
  show (decide ((es.map Ent.data).length ≤ 60) && (es.map Ent.data).all entryD && decide (((es.map Ent.data).map idOfD).Nodup)) = _
  have e2 : (es.map Ent.data).all entryD = true := by
    rw [List.all_eq_true]
    intro d hd
    obtain ⟨e, he, rfl⟩ := List.mem_map.mp hd
    exact entry_data (h e he)
  rw [ids_data, e2, Bool.and_true, List.length_map]
theorem word_len {m : Nat} {b : Bool} {z : Str} (h : wordB m b z = true) : z.length ≤ m ∧ PyData.strOk z = true := by
  have h : (decide (1 ≤ z.cps.size) && decide (z.cps.size ≤ m) && z.cps.toList.all (isSign b)) = true := h
  simp only [Bool.and_eq_true, decide_eq_true_eq, List.all_eq_true] at h
  refine ⟨h.1.2, ?_⟩
  unfold PyData.strOk
  rw [Array.all_eq_true_iff_forall_mem]
  intro c hc
  have := h.2 c (by simpa using hc)
  unfold isSign at this
  simp at this
  simp
  omega
theorem nice_word {m : Nat} {b : Bool} {z : Str} (hm : m ≤ 100) (h : wordB m b z = true) : niceD (.str z) = true := by
  obtain ⟨h1, h2⟩ := word_len h
  simp only [niceD, Bool.and_eq_true, decide_eq_true_eq]
  exact ⟨by omega, h2⟩
theorem cells_nice {l : Nat} {cs : List Str} (h : CellsOk l cs) : niceD (.tuple (cs.map .str)) = true ∧ PyData.depth (.tuple (cs.map .str)) ≤ 1 ∧ vol (.tuple (cs.map .str)) ≤ 135 := by
  refine ⟨?_, ?_, ?_⟩
  · simp only [niceD]
    refine nice_of_mem fun d hd => ?_
    obtain ⟨z, hz, rfl⟩ := List.mem_map.mp hd
    exact nice_word (by decide) (h.ok z hz)
  · simp only [PyData.depth]
    have := depth_of_mem (m := 0) (ds := cs.map PyData.str) fun d hd => by
      obtain ⟨z, hz, rfl⟩ := List.mem_map.mp hd
      simp [PyData.depth]
    omega
  · have : ∀ zs : List Str, (∀ z ∈ zs, cellB z = true) → volAll (zs.map PyData.str) ≤ 44 * zs.length := by
      intro zs
      induction zs with
      | nil => intro _; simp [volAll]
      | cons z zs ih =>
        intro hz
        have h1 := (word_len (hz z List.mem_cons_self)).1
        have h2 := ih fun y hy => hz y (List.mem_cons_of_mem _ hy)
        simp only [List.map_cons, volAll, vol, List.length_cons]
        omega
    have h3 := this cs h.ok
    have h4 := h.hi
    simp only [vol]
    omega
theorem entry_nice {e : Ent} (h : e.Ok) : niceD e.data = true ∧ e.data.depth ≤ 2 ∧ vol e.data ≤ 410 := by
  cases e with
  | wr id rs ws pr =>
    obtain ⟨h1, h2, h3, h4⟩ := h
    obtain ⟨a1, a2, a3⟩ := cells_nice h2
    obtain ⟨b1, b2, b3⟩ := cells_nice h3
    have i1 := nice_word (by decide) h1
    have i2 := (word_len h1).1
    have p : niceD (prD pr) = true ∧ (prD pr).depth = 0 ∧ vol (prD pr) ≤ 10 := by
      cases pr with
      | none => simp [prD, niceD, PyData.depth, vol]
      | some i =>
        obtain ⟨a, b⟩ := h4 i rfl
        have : i.natAbs.log2 < 7 := (Nat.log2_lt (by omega)).mpr (by omega)
        simp only [prD, niceD, PyData.depth, vol, decide_eq_true_eq]
        exact ⟨by omega, trivial, by omega⟩
    obtain ⟨p1, p2, p3⟩ := p
    refine ⟨?_, ?_, ?_⟩
    · show niceD (.tuple [.str "write", .str id, .tuple (rs.map .str), .tuple (ws.map .str), prD pr]) = true
      have w1 : niceD (.str "write") = true := by decide +kernel
      simp only [niceD, niceAll] at a1 b1 i1 w1 ⊢
      rw [a1, b1, i1, w1, p1]
      rfl
    · show PyData.depth (.tuple [.str "write", .str id, .tuple (rs.map .str), .tuple (ws.map .str), prD pr]) ≤ 2
      simp only [PyData.depth, PyData.depthAll] at a2 b2 ⊢
      omega
    · show vol (.tuple [.str "write", .str id, .tuple (rs.map .str), .tuple (ws.map .str), prD pr]) ≤ 410
      have w1 : vol (.str "write") = 52 := by decide
      have w2 : vol (.str id) ≤ 62 := by simp only [vol]; omega
      simp only [vol, volAll] at a3 b3 w1 w2 ⊢
      omega
  | qu id cs =>
    obtain ⟨h1, h2⟩ := h
    obtain ⟨a1, a2, a3⟩ := cells_nice h2
    have i1 := nice_word (by decide) h1
    have i2 := (word_len h1).1
    refine ⟨?_, ?_, ?_⟩
    · show niceD (.tuple [.str "query", .str id, .tuple (cs.map .str)]) = true
      have w1 : niceD (.str "query") = true := by decide +kernel
      simp only [niceD, niceAll] at a1 i1 w1 ⊢
      rw [a1, i1, w1]
      rfl
    · show PyData.depth (.tuple [.str "query", .str id, .tuple (cs.map .str)]) ≤ 2
      simp only [PyData.depth, PyData.depthAll] at a2 ⊢
      omega
    · show vol (.tuple [.str "query", .str id, .tuple (cs.map .str)]) ≤ 410
      have w1 : vol (.str "query") = 52 := by decide
      have w2 : vol (.str id) ≤ 62 := by simp only [vol]; omega
      simp only [vol, volAll] at a3 w1 w2 ⊢
      omega
theorem log_nice {es : List Ent} (h : ∀ e ∈ es, e.Ok) : niceD (.tuple (es.map Ent.data)) = true ∧ PyData.depth (.tuple (es.map Ent.data)) ≤ 3 ∧ vol (.tuple (es.map Ent.data)) ≤ 412 * es.length + 3 := by
  refine ⟨?_, ?_, ?_⟩
  · simp only [niceD]
    refine nice_of_mem fun d hd => ?_
    obtain ⟨e, he, rfl⟩ := List.mem_map.mp hd
    exact (entry_nice (h e he)).1
  · simp only [PyData.depth]
    have := depth_of_mem (m := 2) (ds := es.map Ent.data) fun d hd => by
      obtain ⟨e, he, rfl⟩ := List.mem_map.mp hd
      exact (entry_nice (h e he)).2.1
    omega
  · simp only [vol]
    have : ∀ l : List Ent, (∀ e ∈ l, e.Ok) → volAll (l.map Ent.data) ≤ 412 * l.length := by
      intro l
      induction l with
      | nil => intro _; simp [volAll]
      | cons e l ih =>
        intro hl
        have h1 := (entry_nice (hl e List.mem_cons_self)).2.2
        have h2 := ih fun y hy => hl y (List.mem_cons_of_mem _ hy)
        simp only [List.map_cons, volAll, List.length_cons]
        omega
    have := this es h
    omega
/-- the first entry put in place of the one at k: a log only where it was there -/
theorem dup_ids {es : List Ent} {k : Nat} (nd : (es.map Ent.id).Nodup) (hk : k < es.length) : ((es.take k ++ es.take 1 ++ es.drop (k + 1)).map Ent.id).Nodup ↔ k = 0 := by
  cases es with
  | nil => simp at hk
  | cons x l =>
    constructor
    · intro h
      cases k with
      | zero => rfl
      | succ k =>
        exfalso
        simp only [List.take_succ_cons, List.take_zero, List.cons_append, List.map_cons, List.nodup_cons] at h
        refine h.1 ?_
        simp
    · intro e
      subst e
      simpa using nd
end NV
/-! TxtId -/
set_option Elab.async false
set_option linter.all false
set_option maxRecDepth 100000
set_option maxHeartbeats 600000
/-! an id by isascii, isalnum, lower; a cell by isalpha -/
namespace NV
open PySem PySem.Spec PyProof.Rows L2
def lowA (c : Nat) : Nat := if 65 ≤ c && c ≤ 90 then c + 32 else c
theorem lowerOf_ascii : ∀ c, c < 128 → Unicode.lowerOf c = [lowA c] := by decide +kernel
theorem alnum_ascii : ∀ c, c < 128 → (Unicode.isAlnum c && decide (lowA c = c)) = isSign true c := by decide +kernel
theorem alpha_ascii : ∀ c, c < 128 → isSign true c = true → Unicode.isAlpha c = isSign false c := by decide +kernel
theorem sign_small {b : Bool} {c : Nat} (h : isSign b c = true) : c < 128 := by
  unfold isSign at h
  simp only [Bool.or_eq_true, Bool.and_eq_true, decide_eq_true_eq] at h
  omega
theorem lower_list {z : Str} (h : ∀ c ∈ z.cps.toList, c < 128) : (Txt.lower z).cps.toList = z.cps.toList.map lowA := by
  show (z.cps.mapIdx fun i c => (Unicode.lowerAt z.cps i).toArray).flatten.toList = _
  rw [Array.toList_flatten, Array.toList_mapIdx]
  have e : ∀ i (hi : i < z.cps.toList.length), Unicode.lowerAt z.cps i = [lowA z.cps.toList[i]] := fun i hi => by
    have hi' : i < z.cps.size := by simpa using hi
    have hc := h _ (List.getElem_mem hi)
    unfold Unicode.lowerAt
    rw [Array.getElem?_eq_getElem hi']
    have e2 : z.cps[i] = z.cps.toList[i] := by simp
    rw [e2]
    dsimp only
    rw [if_neg, lowerOf_ascii _ hc]
    intro q
    rw [Bool.and_eq_true, beq_iff_eq] at q
    rw [q.1] at hc
    exact absurd hc (by decide)
  have e3 : (z.cps.toList.mapIdx fun i c => (Unicode.lowerAt z.cps i).toArray).map Array.toList = z.cps.toList.map fun c => [lowA c] := by
    refine List.ext_getElem (by simp) fun i h1 h2 => ?_
    have hi : i < z.cps.toList.length := by simpa using h1
    rw [List.getElem_map, List.getElem_mapIdx, List.getElem_map]
    rw [e i hi]
  rw [e3]
  generalize z.cps.toList = l
  induction l with
  | nil => rfl
  | cons a l ih => rw [List.map_cons, List.flatten_cons, ih]; rfl
theorem map_same : ∀ {l : List Nat}, l = l.map lowA ↔ l.all (fun c => decide (lowA c = c)) = true
  | [] => by simp
  | a :: l => by
    rw [List.map_cons, List.all_cons, Bool.and_eq_true, decide_eq_true_eq, ← map_same (l := l)]
    constructor
    · intro e
      injection e with e1 e2
      exact ⟨e1.symm, e2⟩
    · rintro ⟨e1, e2⟩
      rw [e1, ← e2]
theorem id_text {z : Str} (h : 1 ≤ z.length) : (Txt.isascii z && (Txt.isalnum z && decide (V.str z = V.str (Txt.lower z)))) = z.cps.toList.all (isSign true) := by
  have ea : Txt.isascii z = z.cps.toList.all (fun c => decide (c < 128)) := by
    show z.cps.all _ = _
    rw [← Array.all_toList]
  rw [ea]
  cases h1 : z.cps.toList.all (fun c => decide (c < 128)) with
  | false =>
    rw [Bool.false_and]
    symm
    rw [← Bool.not_eq_true, List.all_eq_true] at h1 ⊢
    exact fun q => h1 fun c hc => decide_eq_true (sign_small (q c hc))
  | true =>
    have hs : ∀ c ∈ z.cps.toList, c < 128 := fun c hc => of_decide_eq_true (List.all_eq_true.mp h1 c hc)
    have el : Txt.isalnum z = z.cps.toList.all Unicode.isAlnum := by
      show (decide (z.length > 0) && z.cps.all _) = _
      rw [decide_eq_true (show z.length > 0 by omega), Bool.true_and, ← Array.all_toList]
    have eq : decide (V.str z = V.str (Txt.lower z)) = z.cps.toList.all (fun c => decide (lowA c = c)) := by
      rw [Bool.eq_iff_iff, decide_eq_true_eq, ← map_same, ← lower_list hs]
      constructor
      · intro e
        injection e with e
        exact congrArg (fun y : Str => y.cps.toList) e
      · intro e
        exact congrArg V.str (ext_toList e)
    rw [Bool.true_and, el, eq]
    generalize z.cps.toList = l at hs ⊢
    induction l with
    | nil => rfl
    | cons a l ih =>
      have hd := alnum_ascii a (hs a List.mem_cons_self)
      have tl := ih fun c hc => hs c (List.mem_cons_of_mem _ hc)
      rw [List.all_cons, List.all_cons, List.all_cons, ← hd, ← tl]
      cases Unicode.isAlnum a <;> cases decide (lowA a = a) <;> simp
theorem alpha_text {z : Str} (h : 1 ≤ z.length) (hs : z.cps.toList.all (isSign true) = true) : Txt.isalpha z = z.cps.toList.all (isSign false) := by
  show (decide (z.length > 0) && z.cps.all _) = _
  rw [decide_eq_true (show z.length > 0 by omega), Bool.true_and, ← Array.all_toList]
  have hs := List.all_eq_true.mp hs
  generalize z.cps.toList = l at hs ⊢
  induction l with
  | nil => rfl
  | cons a l ih =>
    have q := hs a List.mem_cons_self
    rw [List.all_cons, List.all_cons, alpha_ascii a (sign_small q) q, ih fun c hc => hs c (List.mem_cons_of_mem _ hc)]
theorem all_weak {z : Str} (h : z.cps.toList.all (isSign false) = true) : z.cps.toList.all (isSign true) = true := by
  rw [List.all_eq_true] at h ⊢
  intro c hc
  have := h c hc
  unfold isSign at this ⊢
  simp only [Bool.or_eq_true, Bool.and_eq_true, decide_eq_true_eq, Bool.false_eq_true, false_and, or_false] at this
  simp only [Bool.or_eq_true, Bool.and_eq_true, decide_eq_true_eq]
  exact .inl this
end NV
/-! Q1 -/
set_option Elab.async false
set_option linter.all false
set_option maxRecDepth 100000
set_option maxHeartbeats 600000
/-! the package's is_integer_within, is_price, is_id, is_cell -/
namespace NV
open PySem PySem.Spec PyProof.Rows L2
open C8 (pss_cut pe_gc)
abbrev sIsIntegerWithin : Stmt := topS 21
theorem scIsIntegerWithin : FnScope ["value", "lowest", "highest"] ["value", "lowest", "highest"] (defScope sIsIntegerWithin) := ⟨rfl, rfl, rfl, by decide +kernel, rfl, by decide +kernel, by decide +kernel⟩
abbrev sIsId : Stmt := topS 22
theorem scIsId : FnScope ["value"] ["value"] (defScope sIsId) := ⟨rfl, rfl, rfl, by decide +kernel, rfl, by decide +kernel, by decide +kernel⟩
abbrev sIsCell : Stmt := topS 23
theorem scIsCell : FnScope ["value"] ["value"] (defScope sIsCell) := ⟨rfl, rfl, rfl, by decide +kernel, rfl, by decide +kernel, by decide +kernel⟩
abbrev sIsPrice : Stmt := topS 25
theorem scIsPrice : FnScope ["value"] ["value"] (defScope sIsPrice) := ⟨rfl, rfl, rfl, by decide +kernel, rfl, by decide +kernel, by decide +kernel⟩
/-- an int from lo to hi -/
def withinD (lo hi : Int) : PyData → Bool
  | .int i => decide (lo ≤ i) && decide (i ≤ hi)
  | _ => false
def spWithin : Sp := fun vs H Q _ => ∃ (v : V) (d : PyData) (ex : List Addr) (lo hi : Int), vs = [v, .int lo, .int hi] ∧ Rp ex H d v ∧ Q (.bl (withinD lo hi d)) H
/-- a predicate of data, asked by a def that leaves the memory as it is -/
def spIs (f : PyData → Bool) : Sp := fun vs H Q _ => ∃ (v : V) (d : PyData) (ex : List Addr), vs = [v] ∧ Rp ex H d v ∧ niceD d = true ∧ Q (.bl (f d)) H
theorem int_or {d : PyData} (h : isD "int" d = true) : (∃ i, d = .int i) ∨ ∃ b, d = .bool b := by
  cases d with
  | int i => exact .inl ⟨i, rfl⟩
  | bool b => exact .inr ⟨b, rfl⟩
  | _ => exact absurd h (by simp [isD, tyN])
section
variable {P : Program} {w : World} {K : PySem.W.Frag} {mg : Str → Option Value} {base : Heap}
theorem ok_pwithin (DIsIntegerWithin : Fn K mg "is_integer_within" sIsIntegerWithin ["value", "lowest", "highest"]) (b_isinstance : mg "isinstance" = none) (b_int : mg "int" = none) (b_bool : mg "bool" = none) :
    FnOk P w K mg base CX0 1 DIsIntegerWithin.f DIsIntegerWithin.fd ["value", "lowest", "highest"] spWithin := by
  refine DIsIntegerWithin.F.ok scIsIntegerWithin (fun vs H Q E h => ?_) (fun cdv A outer s H vs Q E hr h => ?_)
  · obtain ⟨v, d, ex, lo, hi, rfl, _⟩ := h
    rfl
  obtain ⟨v, d, ex, lo, hi, rfl, hd, q⟩ := h
  refine ⟨_, pss_one (ps_ret (pe_and (pe_callB (cr_isD (T := "int") (by decide)) (by rfl) b_isinstance (by decide +kernel) (pa_cons (pv 0) (pa_cons (pe_bltn (v := .ty "int") rfl b_int (by rfl) rfl) pa_nil))) (pe_and (pe_not (pe_callB (cr_isD (T := "bool") (by decide)) (by rfl) b_isinstance (by decide +kernel) (pa_cons (pv 0) (pa_cons (pe_bltn (v := .ty "bool") rfl b_bool (by rfl) rfl) pa_nil)))) (pe_one (pe_chain op_le op_le (pv 1) (pv 0) (pv 2)))))), ?_⟩
  refine ⟨_, rfl, v, d, ex, rfl, hd, _, rfl, ?_⟩
  cases hs : isD "int" d with
  | false =>
    refine iteF ?_
    have e : withinD lo hi d = false := by
      cases d with
      | int i => exact absurd hs (by simp [isD, tyN])
      | _ => rfl
    rw [← e]
    exact q
  | true =>
    refine iteT ⟨_, rfl, v, d, ex, rfl, hd, _, rfl, _, rfl, ?_⟩
    rcases int_or hs with ⟨i, rfl⟩ | ⟨b, rfl⟩
    · obtain rfl : v = .int i := hd
      refine iteT ⟨_, rfl, _, rfl, lo, i, rfl, rfl, _, rfl, ?_⟩
      have e : withinD lo hi (.int i) = (decide (lo ≤ i) && decide (i ≤ hi)) := rfl
      rw [e] at q
      cases h1 : decide (lo ≤ i) with
      | true =>
        rw [h1] at q
        exact iteT ⟨_, rfl, i, hi, rfl, rfl, q⟩
      | false =>
        rw [h1] at q
        exact iteF q
    · exact iteF q
theorem ok_pprice (DIsPrice : Fn K mg "is_price" sIsPrice ["value"]) (DIsIntegerWithin : Fn K mg "is_integer_within" sIsIntegerWithin ["value", "lowest", "highest"]) (g1 : ∃ u, mg "HIGHEST_PRICE" = some u ∧ L2.RelV (.int 99) u)
    (GIsIntegerWithin : FnOk P w K mg base CX0 1 DIsIntegerWithin.f DIsIntegerWithin.fd ["value", "lowest", "highest"] spWithin) : FnOk P w K mg base CX0 2 DIsPrice.f DIsPrice.fd ["value"] (spIs priceD) := by
  refine DIsPrice.F.ok scIsPrice (fun vs H Q E h => ?_) (fun cdv A outer s H vs Q E hr h => ?_)
  · obtain ⟨v, d, ex, rfl, _⟩ := h
    rfl
  obtain ⟨v, d, ex, rfl, hd, hn, q⟩ := h
  refine ⟨_, pss_one (ps_ret (pe_or (pe_cmpR op_isN (pv 0) pe_non (nomark _)) (pe_one (pe_fn DIsIntegerWithin GIsIntegerWithin hr (pa_cons (pv 0) (pa_cons pe_int (pa_cons (pe_gc (v := .int 99) rfl g1) pa_nil))))))), ?_⟩
  refine ⟨_, rfl, rfl, _, rfl, ?_⟩
  have e : priceD d = (decide (v = .non) || withinD 1 99 d) := by
    cases d with
    | none =>
      obtain rfl : v = .non := hd
      rfl
    | int i =>
      obtain rfl : v = .int i := hd
      show (decide (0 < i) && decide (i < 100)) = (decide (V.int i = V.non) || (decide (1 ≤ i) && decide (i ≤ 99)))
      rw [decide_eq_false (show ¬ V.int i = V.non from nofun), Bool.false_or]
      congr 1 <;> rw [decide_eq_decide] <;> omega
    | bool b =>
      obtain rfl : v = .bl b := hd
      rfl
    | str z =>
      obtain rfl : v = .str z := hd
      rfl
    | list ds =>
      obtain ⟨a, xs, rfl, _⟩ := hd
      rfl
    | tuple ds =>
      obtain ⟨a, xs, rfl, _⟩ := hd
      rfl
    | dict kvs =>
      obtain ⟨_, a, rfl, _⟩ := hd
      rfl
  rw [e] at q
  cases h : decide (v = V.non) with
  | true =>
    rw [h, Bool.true_or] at q
    exact iteT q
  | false =>
    rw [h, Bool.false_or] at q
    exact iteF ⟨_, rfl, v, d, ex, 1, 99, rfl, hd, q⟩
theorem ok_pid (DIsId : Fn K mg "is_id" sIsId ["value"]) (b_isinstance : mg "isinstance" = none) (b_len : mg "len" = none) (b_str : mg "str" = none) (g1 : ∃ u, mg "LONGEST_ID" = some u ∧ L2.RelV (.int 6) u) :
    FnOk P w K mg base CX0 1 DIsId.f DIsId.fd ["value"] (spIs (wordD 6 true)) := by
  refine DIsId.F.ok scIsId (fun vs H Q E h => ?_) (fun cdv A outer s H vs Q E hr h => ?_)
  · obtain ⟨v, d, ex, rfl, _⟩ := h
    rfl
  obtain ⟨v, d, ex, rfl, hd, hn, q⟩ := h
  refine ⟨_, pss_cons (ps_if (PW.pt (pw_or (pt_not (pt_val (pe_callB (cr_isD (T := "str") (by decide)) (by rfl) b_isinstance (by decide +kernel) (pa_cons (pv 0) (pa_cons (pe_bltn (v := .ty "str") rfl b_str (by rfl) rfl) pa_nil))))) (pw_or1 (pt_not (pt_chain op_le op_le pe_int (pe_callB (lenVE K) (by rfl) b_len (by decide +kernel) (pa_cons (pv 0) pa_nil)) (pe_gc (v := .int 6) rfl g1))))))
      (pss_one (ps_ret pe_bl))
      pss_nil)
      (pss_one (ps_ret (pe_and (pe_m0 F.slot_str_isascii F.type_str_isascii mt_isascii (pv 0)) (pe_and (pe_m0 F.slot_str_isalnum F.type_str_isalnum mt_isalnum (pv 0)) (pe_one (pe_cmpR op_eq (pv 0) (pe_lower (pv 0)) (nomark _))))))), ?_⟩
  refine ⟨_, rfl, v, d, ex, rfl, hd, _, rfl, ?_⟩
  cases hs : isD "str" d with
  | false =>
    refine iteT ?_
    rw [← wordD_no (m := 6) (b := true) hs]
    exact q
  | true =>
    obtain ⟨z, rfl⟩ := str_of_isD hs
    obtain rfl : v = .str z := hd
    obtain ⟨hz1, hz2⟩ := nice_str hn
    refine iteF ?_
    refine ⟨_, rfl, .str z, z.length, rfl, ⟨Nat.le_of_lt (small1000 (by omega)), rfl⟩, ?_⟩
    have wd : wordD 6 true (.str z) = (decide (1 ≤ z.length) && decide (z.length ≤ 6) && z.cps.toList.all (isSign true)) := rfl
    refine ⟨1, (z.length : Int), rfl, rfl, _, rfl, ?_⟩
    by_cases h1 : (1 : Int) ≤ (z.length : Int)
    · rw [decide_eq_true h1]
      refine iteT ⟨(z.length : Int), 6, rfl, rfl, _, rfl, ?_⟩
      by_cases h2 : (z.length : Int) ≤ 6
      · rw [decide_eq_true h2]
        refine iteF ?_
        rw [wd, decide_eq_true (show 1 ≤ z.length by omega), decide_eq_true (show z.length ≤ 6 by omega), Bool.true_and, Bool.true_and, ← id_text (by omega)] at q
        refine ⟨_, rfl, ⟨_, rfl⟩, z, rfl, rfl, trivial, _, rfl, ?_⟩
        cases ha : Txt.isascii z with
        | false =>
          rw [ha, Bool.false_and] at q
          exact iteF q
        | true =>
          rw [ha, Bool.true_and] at q
          refine iteT ⟨_, rfl, ⟨_, rfl⟩, z, rfl, rfl, trivial, _, rfl, ?_⟩
          cases hb : Txt.isalnum z with
          | false =>
            rw [hb, Bool.false_and] at q
            exact iteF q
          | true =>
            rw [hb, Bool.true_and] at q
            exact iteT ⟨_, rfl, _, rfl, ⟨_, rfl⟩, z, rfl, rfl, by omega, rfl, q⟩
      · rw [decide_eq_false h2]
        refine iteT ?_
        rw [wd, decide_eq_false (show ¬ z.length ≤ 6 by omega), Bool.and_false, Bool.false_and] at q
        exact q
    · rw [decide_eq_false h1]
      refine iteF ⟨_, rfl, iteT ?_⟩
      rw [wd, decide_eq_false (show ¬ 1 ≤ z.length by omega), Bool.false_and, Bool.false_and] at q
      exact q
theorem ok_pcell (DIsCell : Fn K mg "is_cell" sIsCell ["value"]) (DIsId : Fn K mg "is_id" sIsId ["value"]) (b_len : mg "len" = none) (g1 : ∃ u, mg "LONGEST_CELL" = some u ∧ L2.RelV (.int 4) u)
    (GIsId : FnOk P w K mg base CX0 1 DIsId.f DIsId.fd ["value"] (spIs (wordD 6 true))) : FnOk P w K mg base CX0 2 DIsCell.f DIsCell.fd ["value"] (spIs (wordD 4 false)) := by
  refine DIsCell.F.ok scIsCell (fun vs H Q E h => ?_) (fun cdv A outer s H vs Q E hr h => ?_)
  · obtain ⟨v, d, ex, rfl, _⟩ := h
    rfl
  obtain ⟨v, d, ex, rfl, hd, hn, q⟩ := h
  refine ⟨_, pss_one (ps_ret (pe_and (pe_fn DIsId GIsId hr (pa_cons (pv 0) pa_nil)) (pe_and (pe_cmpR op_le (pe_callB (lenVE K) (by rfl) b_len (by decide +kernel) (pa_cons (pv 0) pa_nil)) (pe_gc (v := .int 4) rfl g1) (nomark _)) (pe_one (pe_m0 F.slot_str_isalpha F.type_str_isalpha mt_isalpha (pv 0)))))), ?_⟩
  refine ⟨_, rfl, v, d, ex, rfl, hd, hn, _, rfl, ?_⟩
  cases hw : wordD 6 true d with
  | false =>
    refine iteF ?_
    have e : wordD 4 false d = false := by
      cases d with
      | str z =>
        rw [← Bool.not_eq_true]
        intro h
        have h : (decide (1 ≤ z.length) && decide (z.length ≤ 4) && z.cps.toList.all (isSign false)) = true := h
        rw [Bool.and_eq_true, Bool.and_eq_true, decide_eq_true_eq, decide_eq_true_eq] at h
        have : wordD 6 true (.str z) = true := by
          show (decide (1 ≤ z.length) && decide (z.length ≤ 6) && z.cps.toList.all (isSign true)) = true
          rw [decide_eq_true h.1.1, decide_eq_true (show z.length ≤ 6 by omega), all_weak h.2]
          rfl
        rw [hw] at this
        cases this
      | _ => rfl
    rw [← e]
    exact q
  | true =>
    obtain ⟨z, rfl⟩ : ∃ z, d = .str z := by
      cases d with
      | str z => exact ⟨z, rfl⟩
      | _ => cases hw
    obtain rfl : v = .str z := hd
    obtain ⟨hz1, hz2⟩ := nice_str hn
    have hw : (decide (1 ≤ z.length) && decide (z.length ≤ 6) && z.cps.toList.all (isSign true)) = true := hw
    rw [Bool.and_eq_true, Bool.and_eq_true, decide_eq_true_eq, decide_eq_true_eq] at hw
    obtain ⟨⟨w1, w2⟩, w3⟩ := hw
    have e : wordD 4 false (.str z) = (decide ((z.length : Int) ≤ 4) && Txt.isalpha z) := by
      show (decide (1 ≤ z.length) && decide (z.length ≤ 4) && z.cps.toList.all (isSign false)) = _
      rw [decide_eq_true w1, Bool.true_and, alpha_text w1 w3]
      congr 1
      rw [decide_eq_decide]
      omega
    rw [e] at q
    refine iteT ⟨_, rfl, .str z, z.length, rfl, ⟨Nat.le_of_lt (small1000 (by omega)), rfl⟩, (z.length : Int), 4, rfl, rfl, _, rfl, ?_⟩
    cases h4 : decide ((z.length : Int) ≤ 4) with
    | false =>
      rw [h4, Bool.false_and] at q
      exact iteF q
    | true =>
      rw [h4, Bool.true_and] at q
      exact iteT ⟨_, rfl, ⟨_, rfl⟩, z, rfl, rfl, trivial, q⟩
end
end NV
/-! Q2 -/
set_option Elab.async false
set_option linter.all false
set_option maxRecDepth 100000
set_option maxHeartbeats 600000
/-! the package's is_cells: cells found before stand in the dict known -/
namespace NV
open PySem PySem.Spec PyProof.Rows L2
open C8 (pss_cut pe_gc)
abbrev sIsCells : Stmt := topS 24
theorem scIsCells : FnScope ["value", "fewest", "known", "before", "cell"] ["value", "fewest", "known"] (defScope sIsCells) := ⟨rfl, rfl, rfl, by decide +kernel, rfl, by decide +kernel, by decide +kernel⟩
/-- a dict of cells, at most n -/
def trues (zs : List Str) : List (Key × V) := zs.map fun z => ((Sum.inr z : Key), V.bl true)
structure Known (kd : Addr) (n : Nat) (H : Hp) : Prop where
  at_ : ∃ zs : List Str, H kd = some (.dK (trues zs)) ∧ (∀ z ∈ zs, wordD 4 false (.str z) = true) ∧ zs.length ≤ n
theorem Known.keep {kd : Addr} {n : Nat} {H H' : Hp} (k : Known kd n H) (h : Kp [] H H') : Known kd n H' := by
  obtain ⟨zs, e, r⟩ := k
  exact ⟨zs, h _ _ (by simp) e, r⟩
theorem Known.more {kd : Addr} {n m : Nat} {H : Hp} (k : Known kd n H) (h : n ≤ m) : Known kd m H := by
  obtain ⟨zs, e, r, l⟩ := k
  exact ⟨zs, e, r, by omega⟩
theorem trues_val (z : Str) : ∀ zs : List Str, valV (trues zs) (Sum.inr z : Key) = if z ∈ zs then some (.bl true) else none
  | [] => rfl
  | y :: zs => by
    by_cases h : y = z
    · rw [if_pos (by rw [h]; exact List.mem_cons_self)]
      exact valV_pos (p := ((Sum.inr y : Key), V.bl true)) (by rw [h])
    · have e : valV (trues (y :: zs)) (Sum.inr z : Key) = valV (trues zs) (Sum.inr z : Key) := valV_neg (p := ((Sum.inr y : Key), V.bl true)) (fun q => h (Sum.inr.inj q))
      rw [e, trues_val z zs]
      by_cases h2 : z ∈ zs
      · rw [if_pos h2, if_pos (List.mem_cons_of_mem _ h2)]
      · rw [if_neg h2, if_neg (fun q => (List.mem_cons.mp q).elim (fun q => h q.symm) h2)]
theorem texts_app : ∀ ds es : List PyData, textsOf (ds ++ es) = textsOf ds ++ textsOf es
  | [], _ => rfl
  | d :: ds, es => by
    have ih := texts_app ds es
    cases d <;> simp [textsOf, ih]
/-- what is read of a tuple of cells so far -/
structure Rising (ds : List PyData) (j : Nat) (before : Str) (zs : List Str) : Prop where
  eq : ds.take j = zs.map PyData.str
  word : ∀ z ∈ zs, wordD 4 false (.str z) = true
  asc : Asc zs
  top : ∀ z ∈ zs, z = before ∨ ltS z before
  last : before ∈ zs ∨ (zs = [] ∧ before = "")
theorem Rising.next {ds : List PyData} {j : Nat} {before c : Str} {zs : List Str} (r : Rising ds j before zs) (hd : ds[j]? = some (.str c)) (lt : ltS before c) (hc : wordD 4 false (.str c) = true) : Rising ds (j + 1) c (zs ++ [c]) := by
  have below : ∀ z ∈ zs, ltS z c := fun z hz => by
    rcases r.top z hz with e | e
    · rw [e]; exact lt
    · exact ltS_trans e lt
  refine ⟨?_, fun z hz => ?_, ?_, fun z hz => ?_, .inl (by simp)⟩
  · rw [List.take_add_one, hd, r.eq]
    simp
  · rcases List.mem_append.mp hz with h | h
    · exact r.word z h
    · rw [List.mem_singleton.mp h]; exact hc
  · refine List.pairwise_append.mpr ⟨r.asc, List.pairwise_singleton _ _, fun a ha b hb => ?_⟩
    rw [List.mem_singleton.mp hb]
    exact below a ha
  · rcases List.mem_append.mp hz with h | h
    · exact .inr (below z h)
    · exact .inl (List.mem_singleton.mp h)
theorem Rising.bad {ds : List PyData} {j least : Nat} {before c : Str} {zs : List Str} (r : Rising ds j before zs) (hd : ds[j]? = some (.str c)) (lt : ¬ ltS before c) : cellsD least (.tuple ds) = false := by
  show (decide (least ≤ ds.length) && decide (ds.length ≤ 3) && ds.all (wordD 4 false) && decide (Asc (textsOf ds))) = false
  rcases r.last with h | ⟨_, rfl⟩
  · rw [show decide (Asc (textsOf ds)) = false from decide_eq_false fun q => lt ?_, Bool.and_false]
    have hj := (List.getElem?_eq_some_iff.mp hd).1
    have e : ds = ds.take j ++ ds.drop j := (List.take_append_drop j ds).symm
    have e2 : ds.drop j = .str c :: ds.drop (j + 1) := by
      rw [List.drop_eq_getElem_cons hj]
      congr 1
      exact (List.getElem?_eq_some_iff.mp hd).2
    rw [e, texts_app, r.eq, texts_map, e2] at q
    exact (List.pairwise_append.mp q).2.2 before h c (by show c ∈ c :: textsOf _; exact List.mem_cons_self)
  · have hz : c = "" := ext_toList (by
      have := lt
      unfold ltS at this
      cases hc : c.cps.toList with
      | nil => rfl
      | cons a l =>
        rw [hc] at this
        exact absurd (show (Str.ofString "").cps.toList < a :: l from List.nil_lt_cons ..) this)
    have hw : ds.all (wordD 4 false) = false := by
      rw [← Bool.not_eq_true, List.all_eq_true]
      intro q
      have := q _ (List.mem_of_getElem? hd)
      rw [hz] at this
      exact absurd this (by decide)
    rw [hw, Bool.and_false, Bool.false_and]
theorem cells_word {ds : List PyData} {j least : Nat} {d : PyData} (hd : ds[j]? = some d) (h : wordD 4 false d = false) : cellsD least (.tuple ds) = false := by
  show (decide (least ≤ ds.length) && decide (ds.length ≤ 3) && ds.all (wordD 4 false) && decide (Asc (textsOf ds))) = false
  have hw : ds.all (wordD 4 false) = false := by
    rw [← Bool.not_eq_true, List.all_eq_true]
    intro q
    rw [q _ (List.mem_of_getElem? hd)] at h
    cases h
  rw [hw, Bool.and_false, Bool.false_and]
theorem Rising.good {ds : List PyData} {least : Nat} {before : Str} {zs : List Str} (r : Rising ds ds.length before zs) (h1 : least ≤ ds.length) (h2 : ds.length ≤ 3) : cellsD least (.tuple ds) = true := by
  show (decide (least ≤ ds.length) && decide (ds.length ≤ 3) && ds.all (wordD 4 false) && decide (Asc (textsOf ds))) = true
  have e := r.eq
  rw [List.take_length] at e
  have hw : ds.all (wordD 4 false) = true := by
    rw [List.all_eq_true]
    intro d hd
    rw [e] at hd
    obtain ⟨z, hz, rfl⟩ := List.mem_map.mp hd
    exact r.word z hz
  have ha : Asc (textsOf ds) := by
    rw [e, texts_map]
    exact r.asc
  rw [decide_eq_true h1, decide_eq_true h2, hw, decide_eq_true ha]
  rfl
def spCellsK : Sp := fun vs H Q _ => ∃ (v : V) (d : PyData) (ex : List Addr) (least : Nat) (kd : Addr) (n : Nat), vs = [v, .int least, .ref kd] ∧ Rp ex H d v ∧ niceD d = true ∧ kd ∈ ex ∧ Known kd n H ∧ n ≤ 100000 ∧ ∀ H', Kp [kd] H H' → Known kd (n + 3) H' → Q (.bl (cellsD least d)) H'
section
variable {P : Program} {w : World} {K : PySem.W.Frag} {mg : Str → Option Value} {base : Heap}
theorem ok_pcells (DIsCells : Fn K mg "is_cells" sIsCells ["value", "fewest", "known"]) (DIsCell : Fn K mg "is_cell" sIsCell ["value"]) (b_isinstance : mg "isinstance" = none) (b_len : mg "len" = none) (b_tuple : mg "tuple" = none) (b_str : mg "str" = none) (g1 : ∃ u, mg "MOST_CELLS" = some u ∧ L2.RelV (.int 3) u)
    (GIsCell : FnOk P w K mg base CX0 2 DIsCell.f DIsCell.fd ["value"] (spIs (wordD 4 false))) : FnOk P w K mg base CX0 3 DIsCells.f DIsCells.fd ["value", "fewest", "known"] spCellsK := by
  refine DIsCells.F.ok scIsCells (fun vs H Q E h => ?_) (fun cdv A outer s H vs Q E hr h => ?_)
  · obtain ⟨v, d, ex, least, kd, n, rfl, _⟩ := h
    rfl
  obtain ⟨v, d, ex, least, kd, n, rfl, hd, hn, hk, kn, n5, q⟩ := h
  have hu := hu_of hr
  refine ⟨_, pss_cons (ps_if (PW.pt (pw_or (pt_not (pt_val (pe_callB (cr_isD (T := "tuple") (by decide)) (by rfl) b_isinstance (by decide +kernel) (pa_cons (pv 0) (pa_cons (pe_bltn (v := .ty "tuple") rfl b_tuple (by rfl) rfl) pa_nil))))) (pw_or1 (pt_not (pt_chain op_le op_le (pv 1) (pe_callB (lenE K) (by rfl) b_len (by decide +kernel) (pa_cons (pv 0) pa_nil)) (pe_gc (v := .int 3) rfl g1))))))
      (pss_one (ps_ret pe_bl))
      pss_nil)
      (pss_cons (ps_set (i := 3) scIsCells.nd rfl (.inl rfl) pe_str)
      (pss_cons (ps_for PassesOwn.never rfl (piTupE K (pv 0)) (pg_name (i := 4) scIsCells.nd rfl (.inl rfl))
      (pss_cons (ps_if (PW.pt (pw_or (pt_not (pt_val (pe_callB (cr_isD (T := "str") (by decide)) (by rfl) b_isinstance (by decide +kernel) (pa_cons (pv 4) (pa_cons (pe_bltn (v := .ty "str") rfl b_str (by rfl) rfl) pa_nil))))) (pw_or1 (pt_cmpR op_le_str (pv 4) (pv 3) (nomark _)))))
      (pss_one (ps_ret pe_bl))
      pss_nil)
      (pss_cons (ps_if (pt_cmp (pc_dnotin hu (pv 4) (pv 2)))
      (pss_cons (ps_if (pt_not (pt_val (pe_fn DIsCell GIsCell hr (pa_cons (pv 4) pa_nil))))
      (pss_one (ps_ret pe_bl))
      pss_nil)
      (pss_one (ps_dput hu (pv 2) (pv 4) pe_bl rfl)))
      pss_nil)
      (pss_one (ps_set (i := 3) scIsCells.nd rfl (.inl rfl) (pv 4))))))
      (pss_one (ps_ret pe_bl)))), ?_⟩
  refine ⟨_, rfl, v, d, ex, rfl, hd, _, rfl, ?_⟩
  have q0 := q H Kp.refl (kn.more (by omega))
  cases hs : isD "tuple" d with
  | false =>
    refine iteT ?_
    rw [← cellsD_no (l := least) hs]
    exact q0
  | true =>
    obtain ⟨ds, rfl⟩ := tup_of_isD hs
    obtain ⟨a, xs, rfl, na, ha, hxs⟩ := hd
    have n2 := nice_tup hn
    have hl := hxs.length
    have cd : ∀ b1 b2 b3 b4 : Bool, decide (least ≤ ds.length) = b1 → decide (ds.length ≤ 3) = b2 → ds.all (wordD 4 false) = b3 → decide (Asc (textsOf ds)) = b4 → cellsD least (.tuple ds) = (b1 && b2 && b3 && b4) := fun b1 b2 b3 b4 h1 h2 h3 h4 => by
      show (decide (least ≤ ds.length) && decide (ds.length ≤ 3) && ds.all (wordD 4 false) && decide (Asc (textsOf ds))) = _
      rw [h1, h2, h3, h4]
    refine iteF ⟨_, rfl, _, rfl, a, xs, rfl, .inr (.inl (.inl ha)), ?_⟩
    refine ⟨(least : Int), (xs.length : Int), rfl, rfl, _, rfl, ?_⟩
    by_cases h1 : (least : Int) ≤ (xs.length : Int)
    · rw [decide_eq_true h1]
      refine iteT ⟨(xs.length : Int), 3, rfl, rfl, _, rfl, ?_⟩
      by_cases h2 : (xs.length : Int) ≤ 3
      · rw [decide_eq_true h2]
        have akd : a ≠ kd := fun z => na (by rw [z]; exact hk)
        have aT : ∀ {H' : Hp}, Kp [kd] H H' → SqT K H' a xs := fun k => .inl (.inl (k _ _ (by simpa using akd) ha))
        refine iteF ⟨_, rfl, a, rfl, ⟨_, .inl (.inl ha)⟩, for_tup (K := K) (a := a) (xs := xs) (fun j σ H' => ∃ (before : Str) (cell : Option V) (zs : List Str), σ = [some (.ref a), some (.int least), some (.ref kd), some (.str before), cell] ∧ Kp [kd] H H' ∧ Known kd (n + j) H' ∧ Rising ds j before zs)
          ⟨"", none, [], rfl, Kp.refl, kn.more (by omega), ⟨rfl, (fun z hz => by cases hz), List.Pairwise.nil, (fun z hz => by cases hz), .inr ⟨rfl, rfl⟩⟩⟩ ?_ ?_ ?_⟩
        · rintro j σ H' hj ⟨_, _, _, _, k, _⟩
          exact aT k
        · rintro j x σ H' hx ⟨before, cell, zs, rfl, k, kj, r⟩
          have hj : j < xs.length := (List.getElem?_eq_some_iff.mp hx).1
          have hj3 : j < 3 := by omega
          obtain ⟨e, he1, he2⟩ := RpAll.back hxs hx
          have ke := Rp.keep (k.mono (by simpa using hk)) _ _ he2
          have ne := n2 e (List.mem_of_getElem? he1)
          have stop : wordD 4 false e = false → Q (.bl false) H' := fun h => by
            rw [← cells_word (least := least) he1 h]
            exact q H' k (kj.more (by omega))
          refine ⟨_, rfl, x, e, ex, rfl, ke, _, rfl, ?_⟩
          cases hse : isD "str" e with
          | false => exact iteT (stop (wordD_no hse))
          | true =>
            obtain ⟨c, rfl⟩ := str_of_isD hse
            obtain rfl : x = .str c := ke
            refine iteF ⟨_, rfl, _, rfl, c, before, rfl, rfl, _, rfl, ?_⟩
            by_cases hlt : ltS before c
            · rw [show decide (before.cps.toList < c.cps.toList) = true from decide_eq_true hlt]
              obtain ⟨ys, ey, wy, ly⟩ := kj.at_
              refine iteF ⟨_, rfl, _, rfl, kd, _, rfl, DGet.k (k := Sum.inr c) ey, _, rfl, ?_⟩
              rw [trues_val]
              have go : ∀ {H2 : Hp}, Kp [kd] H H2 → Known kd (n + (j + 1)) H2 → wordD 4 false (.str c) = true → ∃ (before' : Str) (cell : Option V) (zs : List Str), [some (.ref a), some (.int least), some (.ref kd), some (.str c), some (.str c)] = [some (.ref a), some (.int least), some (.ref kd), some (.str before'), cell] ∧ Kp [kd] H H2 ∧ Known kd (n + (j + 1)) H2 ∧ Rising ds (j + 1) before' zs :=
                fun k2 kn2 hc => ⟨c, _, _, rfl, k2, kn2, r.next he1 hlt hc⟩
              by_cases hin : c ∈ ys
              · rw [if_pos hin]
                exact iteF ⟨_, rfl, go k (kj.more (by omega)) (wy c hin)⟩
              · rw [if_neg hin]
                refine iteT ⟨_, rfl, .str c, .str c, ex, rfl, rfl, ne, _, rfl, ?_⟩
                cases hw : wordD 4 false (.str c) with
                | false => exact iteT (stop hw)
                | true =>
                  refine iteF ⟨_, rfl, _, rfl, kd, _, rfl, DPut.k (k := Sum.inr c) ey (by show (trues ys).length < sizeLine; rw [show (trues ys).length = ys.length from List.length_map ..]; have : (100003 : Nat) < sizeLine := by decide
                                                                                          omega), ?_⟩
                  refine ⟨_, rfl, go (k.trans (Kp.put (by simp))) ⟨ys ++ [c], ?_, fun z hz => ?_, by rw [List.length_append, List.length_singleton]; omega⟩ hw⟩
                  · rw [upd_same, putK_new _ (by rw [trues_val, if_neg hin])]
                    unfold trues
                    rw [List.map_append]
                    rfl
                  · rcases List.mem_append.mp hz with h | h
                    · exact wy z h
                    · rw [List.mem_singleton.mp h]; exact hw
            · rw [show decide (before.cps.toList < c.cps.toList) = false from decide_eq_false hlt]
              refine iteT ?_
              rw [← r.bad (least := least) he1 hlt]
              exact q H' k (kj.more (by omega))
        · rintro σ H' ⟨before, cell, zs, rfl, k, kj, r⟩
          rw [← hl] at r kj
          rw [← r.good (least := least) (by omega) (by omega)]
          exact q H' k (kj.more (by omega))
      · rw [decide_eq_false h2]
        refine iteT ?_
        have e : cellsD least (.tuple ds) = false := (cd _ false _ _ rfl (decide_eq_false (by omega)) rfl rfl).trans (by simp)
        rw [← e]
        exact q0
    · rw [decide_eq_false h1]
      refine iteF ⟨_, rfl, iteT ?_⟩
      have e : cellsD least (.tuple ds) = false := (cd false _ _ _ (decide_eq_false (by omega)) rfl rfl rfl).trans rfl
      rw [← e]
      exact q0
end
end NV
/-! P4b -/
set_option Elab.async false
set_option linter.all false
set_option maxRecDepth 100000
set_option maxHeartbeats 600000
namespace NV
open PySem PySem.Spec PyProof.Rows L2
/-! ### data != a text -/
theorem dict_ne_str (l : Addr) (es : Array DictEntry) (n : Nat) (dd : Option Addr) (sl : Array (Option Value)) (b : Str) (u : Tok) :
    Meets (Builtin.«dict.__ne__» ⟨[.ref l, .str b u], []⟩) (fun _ R s => s.heap.get? l = some { cls := .type "dict", dict := dd, data := .dict es n, slots := sl } ∧ R (.ok (.ret .notImplemented)) s) :=
  .of_wp fun prog w A R s h => by
    obtain ⟨hp, g, d, tk, os⟩ := s
    obtain ⟨hl, h⟩ := h
    have f1 := F.sub_str_dict
    wp_walk using wpAny_loadPart' hl
    exact ⟨_, rfl, h⟩
theorem str_ne_dict (b : Str) (u : Tok) (l : Addr) (es : Array DictEntry) (n : Nat) (dd : Option Addr) (sl : Array (Option Value)) :
    Meets (Builtin.«str.__ne__» ⟨[.str b u, .ref l], []⟩) (fun _ R s => s.heap.get? l = some { cls := .type "dict", dict := dd, data := .dict es n, slots := sl } ∧ R (.ok (.ret .notImplemented)) s) :=
  .of_wp fun prog w A R s h => by
    obtain ⟨hp, g, d, tk, os⟩ := s
    obtain ⟨hl, h⟩ := h
    wp_walk using wpAny_loadPart' hl, wpAny_load hl
    exact ⟨_, rfl, h⟩
theorem ne_dict_str {A : Around} {s : Shared} {l : Addr} {o : Obj} {es : Array DictEntry} {n : Nat} (b : Str) (u : Tok) (ho : s.heap.get? l = some o) (hc : o.cls = .type "dict") (hd : o.data = .dict es n) (hu : A.units < cLine) : SeqAt.RcNeAt A s (.ref l) (.str b u) true := fun prog w E Q h => by
  obtain ⟨cls, dd, data, sl⟩ := o
  simp only at hc hd
  subst hc hd
  exact SeqAt.rc_ne_decline_or (k := false) ⟨_, ho, rfl⟩ (typeIs_str s b u) (by decide) F.sub_str_dict F.slot_dict_ne F.slot_str_ne_refl
    (fun _ hq => call_meets F.slot_dict_ne ⟨_, ho, rfl⟩ F.entry_dict_ne (F.args_dict_ne_2 _ _) (dict_ne_str l es n dd sl b u) ⟨ho, hq⟩)
    (fun _ hq => call_meets F.slot_str_ne_refl (typeIs_str s b u) F.entry_str_ne (F.args_str_ne_2 _ _) (str_ne_dict b u l es n dd sl) ⟨ho, hq⟩)
    (fun _ hq => wpAny_of_eq (rfl : isSame (.ref l) (.str b u) = pure false) hq) (.inr hu) h
def rNeDS : R2 := fun x y H Q => ∃ (d : PyData) (ex : List Addr) (z : Str), y = .str z ∧ Rp ex H d x ∧ Q (.bl (!strD z d)) H
theorem op_neDS {X : Cx} (hu : X.A.units + 64 < cLine) : OpR X (compareOp .NotEq) rNeDS := by
  intro pins s σ H x y v u Q I rx ry h
  obtain ⟨d, ex, z, rfl, hd, q⟩ := h
  have hu' : X.A.units < cLine := by omega
  have fin : strD z d = false → EP X pins σ Q (.bool true) s := fun e => ⟨.bl true, H, I, rfl, by rw [e] at q; exact q⟩
  have sc : scal x (.str z) = true → (!decide (x = .str z)) = (!strD z d) → wpAny (model X.prog X.w) X.A (compareOp .NotEq v u) (EP X pins σ Q) X.xe s := fun h1 h2 => op_ne pins s σ H x (.str z) v u Q I rx ry ⟨h1, by rw [h2]; exact q⟩
  obtain ⟨t, rfl⟩ := ry
  cases d with
  | none =>
    obtain rfl : x = .non := hd
    exact sc rfl rfl
  | bool b =>
    obtain rfl : x = .bl b := hd
    exact sc rfl (by simp [strD])
  | int i =>
    obtain rfl : x = .int i := hd
    exact sc rfl (by simp [strD])
  | str y =>
    obtain rfl : x = .str y := hd
    exact sc rfl (by simp [strD])
  | list ds =>
    obtain ⟨a, xs, rfl, _, ha, _⟩ := hd
    obtain rfl : v = Value.ref a := rx
    obtain ⟨its, rv, pl, _⟩ := I.list (.inl (.inl ha))
    exact SeqAt.RcNeAt.list_str z t pl.isList hu' _ _ _ _ (fin rfl)
  | tuple ds =>
    obtain ⟨a, xs, rfl, _, ha, _⟩ := hd
    obtain rfl : v = Value.ref a := rx
    obtain ⟨its, rv, pl, _⟩ := I.tuple (.inl (.inl ha))
    exact SeqAt.RcNeAt.tuple_str z t pl hu' _ _ _ _ (fin rfl)
  | dict kvs =>
    obtain ⟨rfl, a, rfl, _, ha⟩ := hd
    obtain rfl : v = Value.ref a := rx
    obtain ⟨_, o, es, ep, ho, hc, hdt, _⟩ := no_entries I.hok ha
    exact ne_dict_str z t ho hc hdt hu' _ _ _ _ (fin rfl)
/-! ### data == a text -/
theorem dict_eq_no (l : Addr) (es : Array DictEntry) (n : Nat) (dd : Option Addr) (sl : Array (Option Value)) (b : Str) (u : Tok) :
    Meets (Builtin.«dict.__eq__» ⟨[.ref l, .str b u], []⟩) (fun _ R s => s.heap.get? l = some { cls := .type "dict", dict := dd, data := .dict es n, slots := sl } ∧ R (.ok (.ret .notImplemented)) s) :=
  .of_wp fun prog w A R s h => by
    obtain ⟨hp, g, d, tk, os⟩ := s
    obtain ⟨hl, h⟩ := h
    have f1 := F.sub_str_dict
    wp_walk using wpAny_loadPart' hl
    exact ⟨_, rfl, h⟩
theorem str_eq_no (b : Str) (u : Tok) (l : Addr) (es : Array DictEntry) (n : Nat) (dd : Option Addr) (sl : Array (Option Value)) :
    Meets (Builtin.«str.__eq__» ⟨[.str b u, .ref l], []⟩) (fun _ R s => s.heap.get? l = some { cls := .type "dict", dict := dd, data := .dict es n, slots := sl } ∧ R (.ok (.ret .notImplemented)) s) :=
  .of_wp fun prog w A R s h => by
    obtain ⟨hp, g, d, tk, os⟩ := s
    obtain ⟨hl, h⟩ := h
    wp_walk using wpAny_loadPart' hl, wpAny_load hl
    exact ⟨_, rfl, h⟩
theorem eq_dict_text {A : Around} {s : Shared} {l : Addr} {o : Obj} {es : Array DictEntry} {n : Nat} (b : Str) (u : Tok) (ho : s.heap.get? l = some o) (hc : o.cls = .type "dict") (hd : o.data = .dict es n) (hu : A.units < cLine) : SeqAt.RcAt A s (.ref l) (.str b u) false := fun prog w E Q h => by
  obtain ⟨cls, dd, data, sl⟩ := o
  simp only at hc hd
  subst hc hd
  refine SeqAt.rc_eq_decline_or (k := false) (Ta := "dict") (Tb := "str") ⟨_, ho, rfl⟩ (typeIs_str s b u) (by decide) F.sub_str_dict F.slot_dict_eq F.slot_str_eq_refl (fun _ hq => ?_) (fun _ hq => ?_) (fun _ hq => wpAny_of_eq (rfl : isSame (.ref l) (.str b u) = pure false) hq) (.inr hu) h
  · exact call_meets F.slot_dict_eq ⟨_, ho, rfl⟩ F.entry_dict_eq (F.args_dict_eq_2 _ _) (dict_eq_no l es n dd sl b u) ⟨ho, hq⟩
  · exact call_meets F.slot_str_eq_refl (typeIs_str s b u) F.entry_str_eq (F.args_str_eq_2 _ _) (str_eq_no b u l es n dd sl) ⟨ho, hq⟩
def rEqDS : R2 := fun x y H Q => ∃ (d : PyData) (ex : List Addr) (z : Str), y = .str z ∧ Rp ex H d x ∧ Q (.bl (strD z d)) H
theorem op_eqDS {X : Cx} (hu : X.A.units + 64 < cLine) : OpR X (compareOp .Eq) rEqDS := by
  intro pins s σ H x y v u Q I rx ry h
  obtain ⟨d, ex, z, rfl, hd, q⟩ := h
  have hu' : X.A.units < cLine := by omega
  have fin : strD z d = false → EP X pins σ Q (.bool false) s := fun e => ⟨.bl false, H, I, rfl, by rw [e] at q; exact q⟩
  have sc : scal x (.str z) = true → decide (x = .str z) = strD z d → wpAny (model X.prog X.w) X.A (compareOp .Eq v u) (EP X pins σ Q) X.xe s := fun h1 h2 => op_eq pins s σ H x (.str z) v u Q I rx ry ⟨h1, by rw [h2]; exact q⟩
  obtain ⟨t, rfl⟩ := ry
  match d, hd with
  | .none, hd =>
    obtain rfl : x = .non := hd
    exact sc rfl rfl
  | .bool b, hd =>
    obtain rfl : x = .bl b := hd
    exact sc rfl (by simp [strD])
  | .int i, hd =>
    obtain rfl : x = .int i := hd
    exact sc rfl (by simp [strD])
  | .str y, hd =>
    obtain rfl : x = .str y := hd
    exact sc rfl (by simp [strD])
  | .list ds, hd =>
    obtain ⟨a, xs, rfl, _, ha, _⟩ := hd
    obtain rfl : v = Value.ref a := rx
    obtain ⟨its, rv, pl, _⟩ := I.list (.inl (.inl ha))
    exact SeqAt.RcAt.list_str z t pl.isList hu' _ _ _ _ (fin rfl)
  | .tuple ds, hd =>
    obtain ⟨a, xs, rfl, _, ha, _⟩ := hd
    obtain rfl : v = Value.ref a := rx
    obtain ⟨its, rv, pl, _⟩ := I.tuple (.inl (.inl ha))
    exact SeqAt.RcAt.tuple_str z t pl hu' _ _ _ _ (fin rfl)
  | .dict kvs, hd =>
    obtain ⟨rfl, a, rfl, _, ha⟩ := hd
    obtain rfl : v = Value.ref a := rx
    obtain ⟨_, o, es, ep, ho, hc, hdt, _⟩ := no_entries I.hok ha
    exact eq_dict_text z t ho hc hdt hu' _ _ _ _ (fin rfl)
end NV
/-! Q3 -/
set_option Elab.async false
set_option linter.all false
set_option maxRecDepth 100000
set_option maxHeartbeats 600000
/-! the package's is_entry_with -/
namespace NV
open PySem PySem.Spec PyProof.Rows L2
open C8 (pss_cut pe_gc)
abbrev sIsEntryWith : Stmt := topS 26
theorem scIsEntryWith : FnScope ["value", "known", "kind", "entry_id", "reads", "writes", "price", "cells"] ["value", "known"] (defScope sIsEntryWith) := ⟨rfl, rfl, rfl, by decide +kernel, rfl, by decide +kernel, by decide +kernel⟩
def spEntryK : Sp := fun vs H Q _ => ∃ (v : V) (d : PyData) (ex : List Addr) (kd : Addr) (n : Nat), vs = [v, .ref kd] ∧ Rp ex H d v ∧ niceD d = true ∧ kd ∈ ex ∧ Known kd n H ∧ n ≤ 90000 ∧ ∀ H', Kp [kd] H H' → Known kd (n + 6) H' → Q (.bl (entryD d)) H'
theorem entry_len {ds : List PyData} (h3 : ds.length ≠ 3) (h5 : ds.length ≠ 5) : entryD (.tuple ds) = false := by
  match ds with
  | [_, _, _] => exact absurd rfl h3
  | [_, _, _, _, _] => exact absurd rfl h5
  | [] => rfl
  | [_] => rfl
  | [_, _] => rfl
  | [_, _, _, _] => rfl
  | _ :: _ :: _ :: _ :: _ :: _ :: _ => rfl
section
variable {P : Program} {w : World} {K : PySem.W.Frag} {mg : Str → Option Value} {base : Heap}
theorem ok_pentryk (DIsEntryWith : Fn K mg "is_entry_with" sIsEntryWith ["value", "known"]) (DIsId : Fn K mg "is_id" sIsId ["value"]) (DIsPrice : Fn K mg "is_price" sIsPrice ["value"]) (DIsCells : Fn K mg "is_cells" sIsCells ["value", "fewest", "known"]) (b_isinstance : mg "isinstance" = none) (b_len : mg "len" = none) (b_tuple : mg "tuple" = none)
    (GIsId : FnOk P w K mg base CX0 1 DIsId.f DIsId.fd ["value"] (spIs (wordD 6 true))) (GIsPrice : FnOk P w K mg base CX0 2 DIsPrice.f DIsPrice.fd ["value"] (spIs priceD)) (GIsCells : FnOk P w K mg base CX0 3 DIsCells.f DIsCells.fd ["value", "fewest", "known"] spCellsK) :
    FnOk P w K mg base CX0 4 DIsEntryWith.f DIsEntryWith.fd ["value", "known"] spEntryK := by
  refine DIsEntryWith.F.ok scIsEntryWith (fun vs H Q E h => ?_) (fun cdv A outer s H vs Q E hr h => ?_)
  · obtain ⟨v, d, ex, kd, n, rfl, _⟩ := h
    rfl
  obtain ⟨v, d, ex, kd, n, rfl, hd, hn, hk, kn, n5, q⟩ := h
  refine ⟨_, pss_cons (ps_if (pt_not (pt_val (pe_callB (cr_isD (T := "tuple") (by decide)) (by rfl) b_isinstance (by decide +kernel) (pa_cons (pv 0) (pa_cons (pe_bltn (v := .ty "tuple") rfl b_tuple (by rfl) rfl) pa_nil)))))
      (pss_one (ps_ret pe_bl))
      pss_nil)
      (pss_cons (ps_if (pt_cmpR op_eq (pe_callB (lenE K) (by rfl) b_len (by decide +kernel) (pa_cons (pv 0) pa_nil)) pe_int (nomark _))
      (pss_cons (ps_asg (pv 0) (pg_tup (by rfl) (pgs_cons (pg_name (i := 2) scIsEntryWith.nd rfl (.inl rfl)) (pgs_cons (pg_name (i := 3) scIsEntryWith.nd rfl (.inl rfl)) (pgs_cons (pg_name (i := 4) scIsEntryWith.nd rfl (.inl rfl)) (pgs_cons (pg_name (i := 5) scIsEntryWith.nd rfl (.inl rfl)) (pgs_cons (pg_name (i := 6) scIsEntryWith.nd rfl (.inl rfl)) pgs_nil)))))))
      (pss_cons (ps_if (PW.pt (pw_or (pt_cmpR (op_neDS hr.units) (pv 2) pe_str (nomark _)) (pw_or (pt_not (pt_val (pe_fn DIsId GIsId hr (pa_cons (pv 3) pa_nil)))) (pw_or1 (pt_not (pt_val (pe_fn DIsPrice GIsPrice hr (pa_cons (pv 6) pa_nil))))))))
      (pss_one (ps_ret pe_bl))
      pss_nil)
      (pss_one (ps_ret (pe_and (pe_fn DIsCells GIsCells hr (pa_cons (pv 4) (pa_cons pe_int (pa_cons (pv 1) pa_nil)))) (pe_one (pe_fn DIsCells GIsCells hr (pa_cons (pv 5) (pa_cons pe_int (pa_cons (pv 1) pa_nil))))))))))
      pss_nil)
      (pss_cons (ps_if (pt_cmpR op_eq (pe_callB (lenE K) (by rfl) b_len (by decide +kernel) (pa_cons (pv 0) pa_nil)) pe_int (nomark _))
      (pss_cons (ps_asg (pv 0) (pg_tup (by rfl) (pgs_cons (pg_name (i := 2) scIsEntryWith.nd rfl (.inl rfl)) (pgs_cons (pg_name (i := 3) scIsEntryWith.nd rfl (.inl rfl)) (pgs_cons (pg_name (i := 7) scIsEntryWith.nd rfl (.inl rfl)) pgs_nil)))))
      (pss_one (ps_ret (pe_and (pe_cmpR (op_eqDS hr.units) (pv 2) pe_str (nomark _)) (pe_and (pe_fn DIsId GIsId hr (pa_cons (pv 3) pa_nil)) (pe_one (pe_fn DIsCells GIsCells hr (pa_cons (pv 7) (pa_cons pe_int (pa_cons (pv 1) pa_nil))))))))))
      pss_nil)
      (pss_one (ps_ret pe_bl)))), ?_⟩
  refine ⟨_, rfl, v, d, ex, rfl, hd, _, rfl, ?_⟩
  have q0 := q H Kp.refl (kn.more (by omega))
  have hk' : ∀ b ∈ [kd], b ∈ ex := by simpa using hk
  cases hs : isD "tuple" d with
  | false =>
    refine iteT ?_
    rw [← entryD_no hs]
    exact q0
  | true =>
    obtain ⟨ds, rfl⟩ := tup_of_isD hs
    obtain ⟨a, xs, rfl, na, ha, hxs⟩ := hd
    have hl := hxs.length
    have n2 := nice_tup hn
    refine iteF ⟨_, rfl, a, xs, rfl, .inr (.inl (.inl ha)), rfl, _, rfl, ?_⟩
    by_cases h5 : xs.length = 5
    · rw [show decide (V.int (xs.length : Int) = V.int 5) = true from decide_eq_true (by rw [h5]; rfl)]
      obtain ⟨k, i, r, t, p, rfl⟩ : ∃ k i r t p, ds = [k, i, r, t, p] := by
        match ds, hl with
        | [k, i, r, t, p], _ => exact ⟨k, i, r, t, p, rfl⟩
        | [], hl => simp at hl; omega
        | [_], hl => simp at hl; omega
        | [_, _], hl => simp at hl; omega
        | [_, _, _], hl => simp at hl; omega
        | [_, _, _, _], hl => simp at hl; omega
        | _ :: _ :: _ :: _ :: _ :: _ :: _, hl => simp at hl; omega
      obtain ⟨xk, w1, rfl, rk, xi, w2, rfl, ri, xr, w3, rfl, rr, xt, w4, rfl, rt, xp, w5, rfl, rp, rfl⟩ := hxs
      have wd : ∀ b1 b2 b3 b4 b5 : Bool, strD "write" k = b1 → wordD 6 true i = b2 → cellsD 0 r = b3 → cellsD 1 t = b4 → priceD p = b5 → entryD (.tuple [k, i, r, t, p]) = (b2 && b1 && b3 && b4 && b5) := fun b1 b2 b3 b4 b5 z1 z2 z3 z4 z5 => by
        show (wordD 6 true i && strD "write" k && cellsD 0 r && cellsD 1 t && priceD p) = _
        rw [z1, z2, z3, z4, z5]
      refine iteT ⟨_, rfl, a, [xk, xi, xr, xt, xp], rfl, .inl (.inl ha), rfl, _, _, rfl, _, _, rfl, _, _, rfl, _, _, rfl, _, _, rfl, rfl, ?_⟩
      refine ⟨_, rfl, k, ex, "write", rfl, rk, _, rfl, ?_⟩
      cases hq : strD "write" k with
      | false =>
        refine iteT ?_
        have e := wd false _ _ _ _ hq rfl rfl rfl rfl
        rw [Bool.and_false, Bool.false_and, Bool.false_and, Bool.false_and] at e
        rw [← e]
        exact q0
      | true =>
        refine iteF ⟨_, rfl, xi, i, ex, rfl, ri, n2 i (by simp), _, rfl, ?_⟩
        cases hw : wordD 6 true i with
        | false =>
          refine iteT ?_
          have e := wd true false _ _ _ hq hw rfl rfl rfl
          rw [Bool.false_and, Bool.false_and, Bool.false_and, Bool.false_and] at e
          rw [← e]
          exact q0
        | true =>
          refine iteF ⟨_, rfl, xp, p, ex, rfl, rp, n2 p (by simp), _, rfl, ?_⟩
          cases hp : priceD p with
          | false =>
            refine iteT ?_
            have e := wd true true _ _ false hq hw rfl rfl hp
            rw [Bool.and_false] at e
            rw [← e]
            exact q0
          | true =>
            refine iteF ⟨_, rfl, _, rfl, xr, r, ex, 0, kd, n, rfl, rr, n2 r (by simp), hk, kn, by omega, fun H2 k2 t2 => ⟨_, rfl, ?_⟩⟩
            cases hr0 : cellsD 0 r with
            | false =>
              refine iteF ?_
              have e := wd true true false _ _ hq hw hr0 rfl rfl
              rw [Bool.and_false, Bool.false_and, Bool.false_and] at e
              rw [← e]
              exact q H2 k2 (t2.more (by omega))
            | true =>
              refine iteT ⟨_, rfl, _, rfl, xt, t, ex, 1, kd, n + 3, rfl, Rp.keep (k2.mono hk') _ _ rt, n2 t (by simp), hk, t2, by omega, fun H3 k3 t3 => ?_⟩
              have e := wd true true true _ true hq hw hr0 rfl hp
              rw [Bool.true_and, Bool.true_and, Bool.true_and, Bool.and_true] at e
              rw [← e]
              exact q H3 (k2.trans k3) (t3.more (by omega))
    · rw [show decide (V.int (xs.length : Int) = V.int 5) = false from decide_eq_false (by intro e; injection e with e; omega)]
      refine iteF ⟨_, rfl, a, xs, rfl, .inr (.inl (.inl ha)), rfl, _, rfl, ?_⟩
      by_cases h3 : xs.length = 3
      · rw [show decide (V.int (xs.length : Int) = V.int 3) = true from decide_eq_true (by rw [h3]; rfl)]
        obtain ⟨k, i, c, rfl⟩ : ∃ k i c, ds = [k, i, c] := by
          match ds, hl with
          | [k, i, c], _ => exact ⟨k, i, c, rfl⟩
          | [], hl => simp at hl; omega
          | [_], hl => simp at hl; omega
          | [_, _], hl => simp at hl; omega
          | _ :: _ :: _ :: _ :: _, hl => simp at hl; omega
        obtain ⟨xk, w1, rfl, rk, xi, w2, rfl, ri, xc, w3, rfl, rc, rfl⟩ := hxs
        have qd : ∀ b1 b2 b3 : Bool, strD "query" k = b1 → wordD 6 true i = b2 → cellsD 1 c = b3 → entryD (.tuple [k, i, c]) = (b2 && b1 && b3) := fun b1 b2 b3 z1 z2 z3 => by
          show (wordD 6 true i && strD "query" k && cellsD 1 c) = _
          rw [z1, z2, z3]
        refine iteT ⟨_, rfl, a, [xk, xi, xc], rfl, .inl (.inl ha), rfl, _, _, rfl, _, _, rfl, _, _, rfl, rfl, ?_⟩
        refine ⟨_, rfl, k, ex, "query", rfl, rk, _, rfl, ?_⟩
        cases hq : strD "query" k with
        | false =>
          refine iteF ?_
          have e := qd false _ _ hq rfl rfl
          rw [Bool.and_false, Bool.false_and] at e
          rw [← e]
          exact q0
        | true =>
          refine iteT ⟨_, rfl, xi, i, ex, rfl, ri, n2 i (by simp), _, rfl, ?_⟩
          cases hw : wordD 6 true i with
          | false =>
            refine iteF ?_
            have e := qd true false _ hq hw rfl
            rw [Bool.false_and, Bool.false_and] at e
            rw [← e]
            exact q0
          | true =>
            refine iteT ⟨_, rfl, _, rfl, xc, c, ex, 1, kd, n, rfl, rc, n2 c (by simp), hk, kn, by omega, fun H2 k2 t2 => ?_⟩
            have e := qd true true _ hq hw rfl
            rw [Bool.true_and, Bool.true_and] at e
            rw [← e]
            exact q H2 k2 (t2.more (by omega))
      · rw [show decide (V.int (xs.length : Int) = V.int 3) = false from decide_eq_false (by intro e; injection e with e; omega)]
        refine iteF ?_
        rw [← entry_len (ds := ds) (by omega) (by omega)]
        exact q0
end
end NV
/-! SetCT -/
set_option Elab.async false
set_option linter.all false
set_option maxRecDepth 100000
set_option maxHeartbeats 2000000
/-! {elt for x in t}: the texts that elt gives for the items of a tuple, as a set -/
namespace NV
open PySem PySem.Spec PyProof.Rows L2
section
variable {P : Program} {w : World} {A : Around} {E : Value → Shared → Prop} {s : Shared} {a : Addr} {S : Str → Bool} {n : Nat}
/-- a text goes into a set of texts -/
theorem setT_put {z : Str} {t : Tok} {Q : Value → Shared → Prop} (R : SetG (PySem.strKind P w) tKey s.heap a S n) (room : n + 1 < scanBound)
    (fin : ∀ g, Heap.SameBut a s.heap g → SetG (PySem.strKind P w) tKey g a (fun j => S j || decide (j = z)) (if S z = true then n else n + 1) → ∀ tk, Q .none { s with heap := g, toks := tk }) :
    wpAny (model P w) A (call (.builtin "set.add") [.ref a, .str z t]) Q E s := by
  have isz : (PySem.strKind P w).is z (.str z t) = true := by show (z == z) = true; exact beq_self_eq_true z
  refine wpAny_call_entry F.slot_set_add (SetG.plain tKey_ok R).typeIs F.entry_set_add ?_ (F.args_set_add_2 _ _)
  unfold Builtin.«set.add» Builtin.Frozenset.oneOther
  simp only [List.isEmpty_nil, bind_assoc]
  unfold Builtin.Frozenset.addrOf setAdd
  refine wpAny_bind (wpAny_pure ?_)
  try dsimp only
  refine wpAny_bind (wpAny_pure ?_)
  try dsimp only
  refine wpAny_bind (wpAny_holding (wpAny_bind ((PySem.strKind P w).pyHash isz ?_)))
  refine setG_add_hashed (s := { s with toks := s.toks + 1 }) tKey_ok isz rfl R room fun g sb r => ?_
  show wpAny _ _ (ret Value.none) _ _ _
  exact wpAny_pure ⟨_, rfl, fin g sb r _⟩
end
section
variable {X : Cx}
/-- the texts zs stand for the items in turn; elt leaves the memory as it finds it -/
def tSetC (K : PySem.W.Frag) (P : Program) (w : World) (i : Nat) (tl te : TE) : TE := fun σ H Q => iTup K tl σ H fun J H1 => ∃ (a : Addr) (xs : List V) (zs : List Str), J = Itt K a ∧ SqT K H1 a xs ∧ zs.length = xs.length ∧ zs.length < 1000 ∧
  (∀ (j : Nat) (x : V) (z : Str) (H2 : Hp) (Q2 : VK), xs[j]? = some x → zs[j]? = some z → Kp [] H1 H2 → Q2 (.str z) H2 → te ((wipe σ [i]).set i (some x)) H2 Q2) ∧
  ∀ (D : Addr) (n : Nat), n ≤ zs.length → (n = zs.length ↔ zs.Nodup) → H1 D = none → Q (.ref D) (upd H1 D (SetT P w D (fun j => decide (j ∈ zs)) n))
/-- what the set's members are after j turns -/
def upTo (zs : List Str) (j : Nat) : Str → Bool := fun k => decide (k ∈ zs.take j)
theorem upTo_zero (zs : List Str) : upTo zs 0 = fun _ => false := by
  funext k
  unfold upTo
  simp
theorem upTo_next {zs : List Str} {j : Nat} {z : Str} (h : zs[j]? = some z) : (fun k => upTo zs j k || decide (k = z)) = upTo zs (j + 1) := by
  funext k
  unfold upTo
  rw [List.take_add_one, h]
  simp [List.mem_append]
theorem upTo_all (zs : List Str) : upTo zs zs.length = fun k => decide (k ∈ zs) := by
  funext k
  unfold upTo
  rw [List.take_length]
theorem pe_setC {elt tg iter : Expr} {i : Nat} {scope : Scope} {own : List (PySem.Str × Nat)} {pos : Pos} {tl te : TE} (K : PySem.W.Frag) (P : Program) (w : World) (hc : X.calm = true) (hN : X.N.Nodup) (hl : PE X iter tl) (ok : BlkOk X.N X.env.scope scope own)
    (hg : ∀ (s : Shared) (H : Hp) (C : Addr) (cl : List (PySem.Str × Addr)) (fp : List Addr), PG (X.blk s H scope (compEnvC scope cl C X.env) fp) tg (gName i))
    (he : ∀ (s : Shared) (H : Hp) (C : Addr) (cl : List (PySem.Str × Addr)) (fp : List Addr), PE (X.blk s H scope (compEnvC scope cl C X.env) fp) elt te)
    (how : own.map (·.2) = [i] := by rfl) (hs : ∀ x, foldedSetIterable iter X.env x = pure x := by intro _; rfl) (hK : X.K = K := by rfl) (hP : X.prog = P := by rfl) (hw : X.w = w := by rfl) :
    PE X (.SetComp elt [⟨tg, iter, [], 0⟩] scope pos) (tSetC K P w i tl te) := by
  subst hK hP hw
  constructor
  intro pins s σ H Q I h
  rw [PpSet.eval_SetComp]
  have cells : ∀ y ∈ scope.names, y.2 = .free → ∃ c, X.env.cells.lookup y.1 = some c := fun y hy e => (ok.free y hy e).elim (fun z => I.ok.has _ (.inl z)) fun z => I.ok.has _ (.inr z)
  have tup : PI X tg iter (iTup X.K tl) := pi_tup hl
  refine wpAny_comprehension_free (use := none) rfl hs (closure_ok cells) ok.kind (fun y hy e => (ok.uniq y hy).trans (congrArg some e)) ?_
  refine thn (tup.run pins s σ H _ I h) fun _ _ came => thn came fun _ sa ⟨it, fp, tn, _, Ha, e1, Ia, T, t0, off, a, xs, zs, e2, hx, hlen, hmany, step, fin⟩ => ?_
  subst e1 e2
  refine PpSet.newSet_ok (newEnv_comp ?_)
  -- D: the new set
  obtain ⟨D, hD⟩ : ∃ D, sa.heap.objs.size = D := ⟨_, rfl⟩
  rw [hD]
  have noD : Ha D = none := Ia.hok.fresh (Nat.le_of_eq hD)
  obtain ⟨sb, esb⟩ : ∃ sb : Shared, { sa with heap := sa.heap.push (blank X.w) } = sb := ⟨_, rfl⟩
  have hb : sb.heap = sa.heap.push (blank X.w) := by rw [← esb]
  have grow : ∀ b o, sa.heap.get? b = some o → sb.heap.get? b = some o := fun b o e => by rw [hb]; exact Heap.get?_push_of_some _ e
  have newD : sb.heap.get? D = some (blank X.w) := by rw [hb, ← hD]; exact Heap.get?_push_size _ rfl
  have Ib : Inv X pins σ (upd Ha D (SetT X.prog X.w D (fun _ => false) 0)) sb := by
    rw [← esb]
    exact Ia.laid (t' := sa.toks) (fun b o e => Heap.get?_push_of_some _ e) (Nat.le_of_eq hD) (setT_new (SetG.start (by rw [← hb]; exact newD) rfl))
  obtain ⟨Hb, eHb⟩ : ∃ Hb, upd Ha D (SetT X.prog X.w D (fun _ => false) 0) = Hb := ⟨_, rfl⟩
  rw [eHb] at Ib
  have few : ∀ b ∈ fp, b < D := fun b m => by
    obtain ⟨o, e, _⟩ := T.obj 0 _ t0 b m
    rw [← hD]
    exact Heap.lt_size e
  have offB : ∀ b ∈ fp, FpOk X pins Hb b ∧ b < sb.heap.objs.size := fun b m => by
    have lt := few b m
    refine ⟨⟨?_, (off b m).2⟩, ?_⟩
    · rw [← eHb, upd_ne (Nat.ne_of_lt lt)]
      exact (off b m).1
    · rw [hb, Heap.size_push, hD]
      exact Nat.lt_succ_of_lt lt
  have It := block_start Ib ok hN offB
  obtain ⟨C, hC⟩ : ∃ C, sb.heap.objs.size = C := ⟨_, rfl⟩
  have gg := hg sb Hb C (cellsFrom (C + 1) scope.names (cloFrom X.env.cells scope.names [])) fp
  have ee := he sb Hb C (cellsFrom (C + 1) scope.names (cloFrom X.env.cells scope.names [])) fp
  rw [how, hC] at It
  have esa : ({ sa with heap := sa.heap.push (blank X.w) } : Shared).heap.objs.size = C := by rw [esb]; exact hC
  show codeAny _ _ (.compStart _ 0 (.ref it) (.ref D) (compEnvC scope (cellsFrom (({ sa with heap := sa.heap.push (blank X.w) } : Shared).heap.objs.size + 1) scope.names (cloFrom X.env.cells scope.names [])) ({ sa with heap := sa.heap.push (blank X.w) } : Shared).heap.objs.size X.env)) (compPost _ _ _ none _ (.ref D) ({ sa with heap := sa.heap.push (blank X.w) } : Shared).heap.objs.size) { ({ sa with heap := sa.heap.push (blank X.w) } : Shared) with heap := pushCells (({ sa with heap := sa.heap.push (blank X.w) } : Shared).heap.push { cls := .type "dict", data := .dict #[] }) scope.names }
  rw [esb, hC]
  obtain ⟨N, eN⟩ : ∃ N, compEnvC scope (cellsFrom (C + 1) scope.names (cloFrom X.env.cells scope.names [])) C X.env = N := ⟨_, rfl⟩
  have locN : N.locals = C := by rw [← eN]; rfl
  rw [eN] at It gg ee ⊢
  obtain ⟨sc, esc⟩ : ∃ sc : Shared, { sb with heap := pushCells (sb.heap.push { cls := .type "dict", data := .dict #[] }) scope.names } = sc := ⟨_, rfl⟩
  rw [esc] at It ⊢
  have tc : tn 0 sc.heap := T.keep _ _ _ t0 fun b _ o e => by
    rw [← esc]
    exact pushCells_keeps _ _ _ _ (Heap.get?_push_of_some _ (grow b o e))
  -- the iterator's objects stay as they are while the block runs
  have still : ∀ {τ : L2.St} {H' : Hp} {s' : Shared}, Inv (X.blk sb Hb scope N fp) [] τ H' s' → (∀ b ∈ fp, H' b = none) → ∀ b ∈ fp, FpOk (X.blk sb Hb scope N fp) [] H' b := fun J none b m =>
    ⟨none b m, (J.ok.exf b m).1, J.ok.exfs b m, .inl m, fun x c e => (J.ok.exf b m).2 x c e, fun p hp => by cases hp⟩
  have tupAt : ∀ {c : Nat} {S : Str → Bool}, SqT X.K (upd Ha D (SetT X.prog X.w D S c)) a xs := fun {c S} => Kp.seqT (ex := []) (Kp.laid noD) (by simp) hx
  let W : Nat → Shared → Prop := fun m s' => ∃ j c, m = xs.length - j ∧ j ≤ xs.length ∧ c ≤ j ∧ Inv (X.blk sb Hb scope N fp) [] (wipe σ [i]) (upd Ha D (SetT X.prog X.w D (upTo zs j) c)) s' ∧ tn j s'.heap ∧ ∀ b ∈ fp, upd Ha D (SetT X.prog X.w D (upTo zs j) c) b = none
  have start : W xs.length sc := ⟨0, 0, by omega, Nat.zero_le _, Nat.le_refl _, by rw [upTo_zero, eHb]; exact It, tc, fun b m => by rw [upTo_zero, eHb]; exact (offB b m).1.1⟩
  refine PpSet.codeAny_compStart_set ?loop (T.self X.A 0 _ _ _ tc ?loop)
  refine PpSet.compLoopS_any W (fun m s' hW => ?_) xs.length start
  obtain ⟨j, c, rfl, hj, hcj, J, tj, noJ⟩ := hW
  rcases Nat.lt_or_ge j xs.length with lt | ge
  · -- one more item
    have hxj : xs[j]? = some xs[j] := List.getElem?_eq_getElem lt
    have ltz : j < zs.length := by omega
    have hzj : zs[j]? = some zs[j] := List.getElem?_eq_getElem ltz
    refine thnF (T.item (X.blk sb Hb scope N fp) rfl rfl rfl hc j [] s' _ _ (fun _ _ => False) J (still J noJ) tj ⟨xs, xs[j], tupAt, hxj⟩) fun r s1 ⟨u, er, h1⟩ => ?_
    subst er
    refine thnF h1 fun _ s2 ⟨x, H2, J2, ru, ⟨eH, yx⟩, t2, no2⟩ => ?_
    have ex : xs[j]? = some x := yx xs tupAt
    rw [hxj] at ex
    cases ex
    subst eH
    have J2p := J2.pinned (still J2 no2) (T.obj _ _ t2)
    refine thnF (gg.run _ s2 _ _ _ u (fun τ H3 => τ = (wipe σ [i]).set i (some xs[j]) ∧ H3 = upd Ha D (SetT X.prog X.w D (upTo zs j) c)) J2p ru ⟨rfl, rfl⟩) fun _ s3 ⟨τ, H3, J3, eτ, eH3⟩ => ?_
    subst eτ eH3
    refine wpAny_pure ?_
    show if true = true then _ else _
    rw [if_pos rfl]
    refine thnF (ee.run _ s3 _ _ (fun v H4 => v = .str zs[j] ∧ H4 = upd Ha D (SetT X.prog X.w D (upTo zs j) c)) J3 (step j _ _ _ _ hxj hzj (Kp.laid noD) ⟨rfl, rfl⟩)) fun u4 s4 ⟨v4, H4, J4, r4, ev, eH4⟩ => ?_
    subst ev eH4
    obtain ⟨t4, rfl⟩ : ∃ t, u4 = Value.str zs[j] t := r4
    have room : c + 1 < scanBound := by unfold scanBound; omega
    refine setT_put (setT_get (X := X.blk sb Hb scope N fp) J4 upd_same) room fun g sm R tk => ?_
    have gone : ∃ u, g.get? D = some u := by
      obtain ⟨o, _, _, _, ⟨ho, _⟩, _⟩ := R
      exact ⟨o, ho⟩
    have J5 := J4.write (e := D) (t' := tk) (by rw [upd_same]; trivial) (.inl rfl) (fun b u hbD hu => (sm.2 b hbD).trans hu) gone (setT_new R)
    rw [upd_upd, upTo_next hzj] at J5
    have pin : ∀ b ∈ fp, ∀ o, s2.heap.get? b = some o → g.get? b = some o ∧ _ := fun b m o e => J5.pin (b, o) (List.mem_append_right _ (List.mem_append_right _ (mem_pinsAt m e)))
    have len : (wipe σ [i]).length = ((wipe σ [i]).set i (some xs[j])).length := by rw [List.length_set]
    refine ⟨xs.length - (j + 1), by omega, j + 1, if upTo zs j zs[j] = true then c else c + 1, rfl, lt, by split <;> omega, (J5.unpinned (pins := [])).weak len (fun k v e => ?_), T.keep _ _ _ t2 fun b m o e => (pin b m o e).1, fun b m => ?_⟩
    · have ne : i ≠ k := fun z => (wipe_some e).2 (by rw [z]; exact List.mem_singleton.mpr rfl)
      rw [List.getElem?_set_ne ne]
      exact e
    · obtain ⟨o, e, _⟩ := T.obj _ _ t2 b m
      exact (pin b m o e).2.1
  · -- the end
    have ej : j = xs.length := by omega
    have ejz : j = zs.length := by omega
    refine thnF (T.done (X.blk sb Hb scope N fp) rfl rfl rfl hc j [] s' _ _ (fun _ _ => False) J (still J noJ) tj ⟨xs, tupAt, ge⟩) fun r s1 ⟨er, J1⟩ => ?_
    subst er
    have sets := setG_size (P := X.prog) (w := X.w) (zs := zs) (n := c) (a := D) (h := s1.heap) (by have := setT_get (X := X.blk sb Hb scope N fp) J1 upd_same; rw [ejz, upTo_all] at this; exact this)
    have noC : (upd Ha D (SetT X.prog X.w D (upTo zs j) c)) C = none := by
      have z : (upd Ha D (SetT X.prog X.w D (upTo zs j) c)) N.locals = none := J1.free
      rw [locN] at z
      exact z
    obtain ⟨m, hm, _⟩ := J1.loc
    have hm : s1.heap.Ns N.locals m := hm
    rw [locN] at hm
    have J2 : Inv X pins σ (upd Ha D (SetT X.prog X.w D (upTo zs j) c)) s1 := Ib.call' (ch := fp) J1.os J1.base J1.hok J1.bare fun b hb => ⟨(offB b hb).1.2.2.2.1, (offB b hb).1.2.1, (offB b hb).1.2.2.2.2.1, (offB b hb).1.2.2.2.2.2⟩
    obtain ⟨f0, f1, f2, f3, f4, f5⟩ := Ib.fpOk (Nat.le_of_eq hC) noC
    refine ⟨m, hm, fun g sm => ⟨.ref D, _, J2.turned (t' := s1.toks) (fun b o ne e => (sm.2 b ne).trans e) f0 f1 f3 f4 f5, rfl, ?_⟩⟩
    rw [ejz, upTo_all]
    exact fin D c sets.1 sets.2 noD
end
end NV
/-! L9a -/
set_option Elab.async false
set_option linter.all false
set_option maxRecDepth 100000
set_option maxHeartbeats 1000000
namespace NV
open PySem PySem.Spec PyProof.Rows L2
open C8 (pss_cut)
section
variable {X : Cx} {nm : Str} {st : Stmt} {ps ks : List Str} {sp : Sp} {p pos : Pos} {kws : List Keyword} {tk : TA}
theorem pe_kw0 {j k : Nat} (D : Fn X.K X.mg nm st ps) (G : FnOk X.prog X.w X.K X.mg X.base CX0 j D.f D.fd ps sp) (hr : Room k X.A) (hb : KBinds X.K D.fd ps ks (· ++ ·) (· ++ ·)) (hkw : PK X kws tk)
    (hk : j ≤ k := by decide) (hg : Gl X nm := by rfl) (hall : (backToKw pos (keywordEach kws X.env)).all (·.1.isSome) = true := by rfl) (hks : (backToKw pos (keywordEach kws X.env)).filterMap (·.1) = ks := by rfl) (hdb : (nm == ("__debug__" : Str)) = false := by decide)
    (hpl : ((backTo pos (starEach [] X.env)).any (·.1) || (backToKw pos (keywordEach kws X.env)).any (·.1.isNone)) = false := by rfl) :
    PE X (.Call (.Name nm p) [] kws pos) (tCallK sp (· ++ ·) (fun _ _ _ => False) tNil tk) := by
  refine ⟨fun pins s σ H Q I h => wpAny_Call_Name_kw (ld_glob I hg D.m ?_ hdb)⟩
  refine PySem.W.callWith_KW0 (h₀ := X.base) I.ok.mod.kin D.F.kp hall (thn (hkw.run pos pins s σ H _ I h) fun ws s2 ⟨zs, H2, I2, rz, q2⟩ => ⟨I2.kIn, ?_⟩) hpl
  rw [hks]
  exact run_fnk G (hr.mono hk) hb pass0 I2 .nil rz q2
theorem sltAE (K : PySem.W.Frag) (h : X.K = K := by rfl) : SlR X (rSlA K) := by
  rw [← h]; exact sl_tupA
end
/-! ### tables that grow beside -/
def Tabs (T : List Addr) (H : Hp) : Prop := ∀ p ∈ T, GxR.TabG H p
theorem Tabs.kp {T : List Addr} {H H' : Hp} (t : Tabs T H) (k : Kp [] H H') : Tabs T H' := fun p hp => by
  obtain ⟨ps, e, o⟩ := t p hp
  exact ⟨ps, k _ _ (by simp) e, o⟩
/-- n draws are left, the tables T stand -/
structure DT (D : Dr) (T : List Addr) (n : Nat) (H : Hp) : Prop where
  dr : DrAt D n H
  tb : Tabs T H
section
variable {D : Dr} {T : List Addr} {n m : Nat} {H H' : Hp}
theorem DT.off (d : DT D T n H) {p : Addr} (hp : p ∈ T) : p ∉ D.all := fun z => by
  obtain ⟨ps, e, _⟩ := d.tb p hp
  obtain ⟨_, large, items, left, turn, h1, h2, h3, _⟩ := d.dr
  rcases List.mem_cons.mp z with z | z
  · rw [z, h1] at e; cases e
  · rcases List.mem_cons.mp z with z | z
    · rw [z, h2] at e; cases e
    · rw [List.mem_singleton.mp z, h3] at e; cases e
theorem DT.less (d : DT D T n H) (h : m ≤ n) : DT D T m H := ⟨d.dr.less h, d.tb⟩
theorem DT.keep (d : DT D T n H) (k : Kp [] H H') : DT D T n H' := ⟨d.dr.keep k, d.tb.kp k⟩
theorem DT.draw (d : DT D T n H) (k : Kp D.ex H H') (d' : DrAt D m H') : DT D T m H' := ⟨d', fun p hp => by
  obtain ⟨ps, e, o⟩ := d.tb p hp
  exact ⟨ps, k _ _ (Dr.sub (d.off hp)) e, o⟩⟩
theorem DT.pkg (d : DT D T n H) (k : Kp T H H') (t : Tabs T H') : DT D T n H' := by
  refine ⟨?_, t⟩
  have nT : ∀ b ∈ D.all, b ∉ T := fun b hb z => d.off z hb
  obtain ⟨h0, large, items, left, turn, h1, h2, h3, h4⟩ := d.dr
  exact ⟨h0, large, items, left, turn, k _ _ (nT _ (by simp)) h1, k _ _ (nT _ (by simp)) h2, k _ _ (nT _ (by simp)) h3, h4⟩
theorem DT.live (d : DT D T n H) : Live (T ++ D.ex) H := fun b hb => by
  rcases List.mem_append.mp hb with z | z
  · obtain ⟨ps, e, _⟩ := d.tb b z
    rw [e]; exact fun q => nomatch q
  · obtain ⟨_, large, items, left, turn, h1, h2, _⟩ := d.dr
    rcases List.mem_cons.mp z with z | z
    · rw [z, h1]; exact fun q => nomatch q
    · rw [List.mem_singleton.mp z, h2]; exact fun q => nomatch q
theorem DT.fresh (d : DT D T n H) {p : Addr} (hp : H p = none) : p ∉ T ++ D.ex := d.live.fresh hp
end
/-- a comprehension over a list or a tuple whose element lays things and lets tables grow -/
theorem lc_growLT {K : PySem.W.Frag} {tt : TT} {te : TE} {i : Nat} {σ : L2.St} {C a : Addr} {T : List Addr} {xs : List V} {H1 : Hp} {Qd : Hp → Prop} (f : Nat → V) (ha : H1 a = some (.lst xs)) (nC : H1 C = none) (tb : Tabs T H1) (hz : xs.length < sizeLine)
    (htt : ∀ (H : Hp) (Q : Bool → Hp → Prop) (x : V), Q true H → tt ((wipe σ [i]).set i (some x)) H Q)
    (hte : ∀ (j : Nat) (x : V) (H : Hp) (Q : V → Hp → Prop), xs[j]? = some x → Kp T H1 H → Tabs T H → (∀ H', Kp T H H' → Tabs T H' → Q (f j) H') → te ((wipe σ [i]).set i (some x)) H Q)
    (hd : ∀ H', Kp T H1 H' → Tabs T H' → H' C = some (.lst ((List.range xs.length).map f)) → Qd H') :
    ∃ W : Nat → Nat → Hp → Prop, (∃ m, W 0 m (upd H1 C (.lst []))) ∧ ∀ i' m H, W i' m H →
      ((Itl K a).stop i' H ∧ Qd H) ∨ ((Itl K a).go i' H ∧ ∃ Nx : Hp → Prop, (∀ H', Nx H' → ∃ m', m' < m ∧ W (i' + 1) m' H') ∧ ∀ x H', (Itl K a).yld i' H x H' → gName i x (wipe σ [i]) H' fun σ2 H2 => wipe σ2 [i] = wipe σ [i] ∧ tt σ2 H2 fun b H3 =>
        if b = true then te σ2 H3 fun y H4 => ∃ acc, H4 C = some (.lst acc) ∧ acc.length < sizeLine ∧ Nx (upd H4 C (.lst (acc ++ [y]))) else Nx H3) := by
  have nT : ∀ {b : Addr} {xs : List V}, H1 b = some (.lst xs) → b ∉ T := fun e z => by
    obtain ⟨ps, e', _⟩ := tb _ z
    rw [e] at e'
    cases e'
  have CT : C ∉ T := fun z => by
    obtain ⟨ps, e', _⟩ := tb _ z
    rw [nC] at e'
    cases e'
  have step : ∀ {H : Hp}, Kp (C :: T) H1 H → Kp T H1 H := fun k b o hb e => k b o (fun z => by
    rcases List.mem_cons.mp z with z | z
    · rw [z, nC] at e; cases e
    · exact hb z) e
  refine lc_list (K := K) (a := a) (xs := xs) (fun j H' => Kp (C :: T) H1 H' ∧ Tabs T H' ∧ H' C = some (.lst ((List.range j).map f))) ⟨Kp.laid nC, tb.kp (Kp.laid nC), upd_same⟩ (fun j H' _ e => .inl (.inl (step e.1 _ _ (nT ha) ha))) (fun j x H' hx e => ?_) (fun H' e => hd H' (step e.1) e.2.1 e.2.2)
  obtain ⟨k1, t1, e1⟩ := e
  have hj : j < xs.length := (List.getElem?_eq_some_iff.mp hx).1
  refine ⟨wipe_again, htt _ _ x ?_⟩
  refine iteT (hte j x _ _ hx (step k1) t1 fun H3 k3 t3 => ⟨_, k3 _ _ CT e1, ?_, ?_⟩)
  · rw [List.length_map, List.length_range]
    omega
  · refine ⟨(k1.trans (k3.mono fun b hb => List.mem_cons_of_mem _ hb)).trans (Kp.put (by simp)), fun p hp => ?_, ?_⟩
    · obtain ⟨ps, e', o⟩ := t3 p hp
      exact ⟨ps, by rw [upd_ne (fun z => CT (by rw [← z]; exact hp))]; exact e', o⟩
    · rw [upd_same, List.range_succ, List.map_append]
      rfl
theorem lc_growTT {K : PySem.W.Frag} {tt : TT} {te : TE} {i : Nat} {σ : L2.St} {C a : Addr} {T : List Addr} {xs : List V} {H1 : Hp} {Qd : Hp → Prop} (f : Nat → V) (ha : H1 a = some (.tup xs)) (nC : H1 C = none) (tb : Tabs T H1) (hz : xs.length < sizeLine)
    (htt : ∀ (H : Hp) (Q : Bool → Hp → Prop) (x : V), Q true H → tt ((wipe σ [i]).set i (some x)) H Q)
    (hte : ∀ (j : Nat) (x : V) (H : Hp) (Q : V → Hp → Prop), xs[j]? = some x → Kp T H1 H → Tabs T H → (∀ H', Kp T H H' → Tabs T H' → Q (f j) H') → te ((wipe σ [i]).set i (some x)) H Q)
    (hd : ∀ H', Kp T H1 H' → Tabs T H' → H' C = some (.lst ((List.range xs.length).map f)) → Qd H') :
    ∃ W : Nat → Nat → Hp → Prop, (∃ m, W 0 m (upd H1 C (.lst []))) ∧ ∀ i' m H, W i' m H →
      ((Itt K a).stop i' H ∧ Qd H) ∨ ((Itt K a).go i' H ∧ ∃ Nx : Hp → Prop, (∀ H', Nx H' → ∃ m', m' < m ∧ W (i' + 1) m' H') ∧ ∀ x H', (Itt K a).yld i' H x H' → gName i x (wipe σ [i]) H' fun σ2 H2 => wipe σ2 [i] = wipe σ [i] ∧ tt σ2 H2 fun b H3 =>
        if b = true then te σ2 H3 fun y H4 => ∃ acc, H4 C = some (.lst acc) ∧ acc.length < sizeLine ∧ Nx (upd H4 C (.lst (acc ++ [y]))) else Nx H3) := by
  have nT : ∀ {b : Addr} {xs : List V}, H1 b = some (.tup xs) → b ∉ T := fun e z => by
    obtain ⟨ps, e', _⟩ := tb _ z
    rw [e] at e'
    cases e'
  have CT : C ∉ T := fun z => by
    obtain ⟨ps, e', _⟩ := tb _ z
    rw [nC] at e'
    cases e'
  have step : ∀ {H : Hp}, Kp (C :: T) H1 H → Kp T H1 H := fun k b o hb e => k b o (fun z => by
    rcases List.mem_cons.mp z with z | z
    · rw [z, nC] at e; cases e
    · exact hb z) e
  refine lc_tup (K := K) (a := a) (xs := xs) (fun j H' => Kp (C :: T) H1 H' ∧ Tabs T H' ∧ H' C = some (.lst ((List.range j).map f))) ⟨Kp.laid nC, tb.kp (Kp.laid nC), upd_same⟩ (fun j H' _ e => .inl (.inl (step e.1 _ _ (nT ha) ha))) (fun j x H' hx e => ?_) (fun H' e => hd H' (step e.1) e.2.1 e.2.2)
  obtain ⟨k1, t1, e1⟩ := e
  have hj : j < xs.length := (List.getElem?_eq_some_iff.mp hx).1
  refine ⟨wipe_again, htt _ _ x ?_⟩
  refine iteT (hte j x _ _ hx (step k1) t1 fun H3 k3 t3 => ⟨_, k3 _ _ CT e1, ?_, ?_⟩)
  · rw [List.length_map, List.length_range]
    omega
  · refine ⟨(k1.trans (k3.mono fun b hb => List.mem_cons_of_mem _ hb)).trans (Kp.put (by simp)), fun p hp => ?_, ?_⟩
    · obtain ⟨ps, e', o⟩ := t3 p hp
      exact ⟨ps, by rw [upd_ne (fun z => CT (by rw [← z]; exact hp))]; exact e', o⟩
    · rw [upd_same, List.range_succ, List.map_append]
      rfl
/-- the package's promises, its tables T beside -/
def spIsLogT (T : List Addr) : Sp := fun vs H Q _ => ∃ (v : V) (d : PyData) (ex : List Addr), vs = [v] ∧ Rp ex H d v ∧ Good d ∧ (∀ p ∈ T, p ∈ ex) ∧ Tabs T H ∧ ∀ H', Kp T H H' → Tabs T H' → Q (.bl (logD' d)) H'
def spIsEntryT (T : List Addr) : Sp := fun vs H Q _ => ∃ (v : V) (d : PyData) (ex : List Addr), vs = [v] ∧ Rp ex H d v ∧ Good d ∧ (∀ p ∈ T, p ∈ ex) ∧ Tabs T H ∧ ∀ H', Kp T H H' → Tabs T H' → Q (.bl (entryD d)) H'
end NV
/-! Q4 -/
set_option Elab.async false
set_option linter.all false
set_option maxRecDepth 100000
set_option maxHeartbeats 600000
/-! the package's is_log -/
namespace NV
open PySem PySem.Spec PyProof.Rows L2
open C8 (pss_cut pe_gc)
abbrev sIsLogWithin : Stmt := topS 27
theorem scIsLogWithin : FnScope ["value", "most", "known", "entry"] ["value", "most"] (defScope sIsLogWithin) := ⟨rfl, rfl, rfl, by decide +kernel, rfl, by decide +kernel, by decide +kernel⟩
abbrev sIsLog : Stmt := topS 28
theorem scIsLog : FnScope ["value"] ["value"] (defScope sIsLog) := ⟨rfl, rfl, rfl, by decide +kernel, rfl, by decide +kernel, by decide +kernel⟩
/-- a log but for its length -/
def logDn (m : Nat) : PyData → Bool
  | .tuple ds => decide (ds.length ≤ m) && ds.all entryD && decide ((ds.map idOfD).Nodup)
  | _ => false
theorem logDn_no {m : Nat} {d : PyData} (h : isD "tuple" d = false) : logDn m d = false := by
  cases d with
  | tuple ds => exact absurd h (by simp [isD, tyN])
  | _ => rfl
theorem logDn_60 (d : PyData) : logDn 60 d = logD' d := by cases d <;> rfl
mutual
theorem Rp.apart {ex : List Addr} {H : Hp} {p : Addr} (hp : H p = none) : ∀ (d : PyData) (v : V), Rp ex H d v → Rp (p :: ex) H d v
  | .none, _, h => h
  | .bool _, _, h => h
  | .int _, _, h => h
  | .str _, _, h => h
  | .list ds, v, h => by
    obtain ⟨a, xs, e, na, h1, h2⟩ := h
    exact ⟨a, xs, e, fun z => (List.mem_cons.mp z).elim (fun q => by rw [q, hp] at h1; cases h1) na, h1, RpAll.apart hp ds xs h2⟩
  | .tuple ds, v, h => by
    obtain ⟨a, xs, e, na, h1, h2⟩ := h
    exact ⟨a, xs, e, fun z => (List.mem_cons.mp z).elim (fun q => by rw [q, hp] at h1; cases h1) na, h1, RpAll.apart hp ds xs h2⟩
  | .dict kvs, v, h => by
    obtain ⟨e0, a, e, na, h1⟩ := h
    exact ⟨e0, a, e, fun z => (List.mem_cons.mp z).elim (fun q => by rw [q, hp] at h1; cases h1) na, h1⟩
theorem RpAll.apart {ex : List Addr} {H : Hp} {p : Addr} (hp : H p = none) : ∀ (ds : List PyData) (vs : List V), RpAll ex H ds vs → RpAll (p :: ex) H ds vs
  | [], _, h => h
  | d :: ds, vs, h => by
    obtain ⟨v, ws, e, h1, h2⟩ := h
    exact ⟨v, ws, e, Rp.apart hp d v h1, RpAll.apart hp ds ws h2⟩
end
/-- a predicate of data, asked by a def that only lays new things -/
def spAskD (f : PyData → Bool) : Sp := fun vs H Q _ => ∃ (v : V) (d : PyData) (ex : List Addr), vs = [v] ∧ Rp ex H d v ∧ niceD d = true ∧ ∀ H', Kp [] H H' → Q (.bl (f d)) H'
def spAskN : Sp := fun vs H Q _ => ∃ (v : V) (d : PyData) (m : Nat) (ex : List Addr), vs = [v, .int (m : Nat)] ∧ m ≤ 900 ∧ Rp ex H d v ∧ niceD d = true ∧ ∀ H', Kp [] H H' → Q (.bl (logDn m d)) H'
section
variable {P : Program} {w : World} {K : PySem.W.Frag} {mg : Str → Option Value} {base : Heap}
theorem ok_plogw (DIsLogWithin : Fn K mg "is_log_within" sIsLogWithin ["value", "most"]) (DIsEntryWith : Fn K mg "is_entry_with" sIsEntryWith ["value", "known"]) (b_isinstance : mg "isinstance" = none) (b_len : mg "len" = none) (b_tuple : mg "tuple" = none) (g2 : ∃ u, mg "ID" = some u ∧ L2.RelV (.int 1) u)
    (GIsEntryWith : FnOk P w K mg base CX0 4 DIsEntryWith.f DIsEntryWith.fd ["value", "known"] spEntryK) : FnOk P w K mg base CX0 5 DIsLogWithin.f DIsLogWithin.fd ["value", "most"] spAskN := by
  refine DIsLogWithin.F.ok scIsLogWithin (fun vs H Q E h => ?_) (fun cdv A outer s H vs Q E hr h => ?_)
  · obtain ⟨v, d, m, ex, rfl, _⟩ := h
    rfl
  obtain ⟨v, d, m, ex, rfl, hm, hd, hn, q⟩ := h
  refine ⟨_, pss_cons (ps_if (PW.pt (pw_or (pt_not (pt_val (pe_callB (cr_isD (T := "tuple") (by decide)) (by rfl) b_isinstance (by decide +kernel) (pa_cons (pv 0) (pa_cons (pe_bltn (v := .ty "tuple") rfl b_tuple (by rfl) rfl) pa_nil))))) (pw_or1 (pt_cmpR op_gt (pe_callB (lenE K) (by rfl) b_len (by decide +kernel) (pa_cons (pv 0) pa_nil)) (pv 1) (nomark _)))))
      (pss_one (ps_ret pe_bl))
      pss_nil)
      (pss_cons (ps_set (i := 2) scIsLogWithin.nd rfl (.inl rfl) pe_dnewK)
      (pss_cons (ps_for PassesOwn.never rfl (piTupE K (pv 0)) (pg_name (i := 3) scIsLogWithin.nd rfl (.inl rfl))
      (pss_one (ps_if (pt_not (pt_val (pe_fn DIsEntryWith GIsEntryWith hr (pa_cons (pv 3) (pa_cons (pv 2) pa_nil)))))
      (pss_one (ps_ret pe_bl))
      pss_nil)))
      (pss_one (ps_ret (pe_cmpR op_eq (pe_callB (lenTxE P w) (by rfl) b_len (by decide +kernel) (pa_cons (pe_setC (i := 3) (own := [("entry", 3)]) K P w rfl scIsLogWithin.nd (pv 0) (blkOk_by (N := ["value", "most", "known", "entry"]) (sc := defScope sIsLogWithin) (by decide +kernel)) (fun _ _ _ _ _ => pg_name (i := 3) scIsLogWithin.nd rfl (.inl rfl)) (fun _ _ _ _ _ => pe_ix (ixtE K) (pv 3) (pe_gc (v := .int 1) rfl g2) (fun _ _ => rfl))) pa_nil)) (pe_callB (lenE K) (by rfl) b_len (by decide +kernel) (pa_cons (pv 0) pa_nil)) (nomark _)))))), ?_⟩
  refine ⟨_, rfl, v, d, ex, rfl, hd, _, rfl, ?_⟩
  cases hs : isD "tuple" d with
  | false =>
    refine iteT ?_
    rw [← logDn_no hs]
    exact q H Kp.refl
  | true =>
    obtain ⟨ds, rfl⟩ := tup_of_isD hs
    obtain ⟨a, xs, rfl, na, ha, hxs⟩ := hd
    have hl := hxs.length
    have n2 := nice_tup hn
    have ld : ∀ b1 b2 b3 : Bool, decide (ds.length ≤ m) = b1 → ds.all entryD = b2 → decide ((ds.map idOfD).Nodup) = b3 → logDn m (.tuple ds) = (b1 && b2 && b3) := fun b1 b2 b3 z1 z2 z3 => by
      show (decide (ds.length ≤ m) && ds.all entryD && decide ((ds.map idOfD).Nodup)) = _
      rw [z1, z2, z3]
    refine iteF ⟨_, rfl, a, xs, rfl, .inr (.inl (.inl ha)), _, rfl, _, _, rfl, rfl, _, rfl, ?_⟩
    by_cases h60 : (xs.length : Int) > (m : Nat)
    · rw [decide_eq_true h60]
      refine iteT ?_
      have e := ld false _ _ (decide_eq_false (by omega)) rfl rfl
      rw [Bool.false_and, Bool.false_and] at e
      rw [← e]
      exact q H Kp.refl
    · rw [decide_eq_false h60]
      refine iteF fun kd nk => ?_
      have k0 : Kp [] H (upd H kd (.dK [])) := Kp.laid nk
      have kn0 : Known kd 0 (upd H kd (.dK [])) := ⟨[], upd_same, (fun z hz => by cases hz), Nat.le_refl _⟩
      have hx0 : RpAll (kd :: ex) (upd H kd (.dK [])) ds xs := RpAll.keep (k0.mono (by simp)) _ _ (RpAll.apart nk _ _ hxs)
      have back : ∀ {H' : Hp}, Kp [kd] (upd H kd (.dK [])) H' → Kp [] H H' := fun k => Kp.drop ((k0.mono (by simp)).trans k) nk
      generalize upd H kd (.dK []) = H0 at k0 kn0 hx0 back
      have akd : a ≠ kd := fun z => by rw [z, nk] at ha; cases ha
      have ha0 : H0 a = some (.tup xs) := k0 _ _ (by simp) ha
      have aT : ∀ {H' : Hp}, Kp [kd] H0 H' → SqT K H' a xs := fun k => .inl (.inl (k _ _ (by simpa using akd) ha0))
      refine ⟨_, rfl, a, rfl, ⟨_, .inl (.inl ha0)⟩, for_tup (K := K) (a := a) (xs := xs) (fun j σ H' => ∃ entry : Option V, σ = [some (.ref a), some (.int (m : Nat)), some (.ref kd), entry] ∧ Kp [kd] H0 H' ∧ Known kd (6 * j) H' ∧ ∀ d ∈ ds.take j, entryD d = true)
        ⟨none, rfl, Kp.refl, kn0, by simp⟩ ?_ ?_ ?_⟩
      · rintro j σ H' hj ⟨_, _, k, _⟩
        exact aT k
      · rintro j x σ H' hx ⟨entry, rfl, k, kj, all⟩
        have hj : j < xs.length := (List.getElem?_eq_some_iff.mp hx).1
        obtain ⟨e, he1, he2⟩ := RpAll.back hx0 hx
        have ke := Rp.keep (k.mono (by simp)) _ _ he2
        refine ⟨_, rfl, _, rfl, x, e, kd :: ex, kd, 6 * j, rfl, ke, n2 e (List.mem_of_getElem? he1), by simp, kj, by omega, fun H2 k2 kn2 => ⟨_, rfl, ?_⟩⟩
        cases hw : entryD e with
        | false =>
          refine iteT ?_
          have el := ld _ false _ rfl (by
            rw [← Bool.not_eq_true, List.all_eq_true]
            intro h
            rw [h e (List.mem_of_getElem? he1)] at hw
            cases hw) rfl
          rw [Bool.and_false, Bool.false_and] at el
          rw [← el]
          exact q H2 (back (k.trans k2))
        | true =>
          refine iteF ⟨_, rfl, k.trans k2, kn2.more (by omega), fun d hd => ?_⟩
          rw [List.take_add_one, he1] at hd
          rcases List.mem_append.mp hd with h | h
          · exact all d h
          · rw [show d = e by simpa using h]; exact hw
      · rintro σ H' ⟨entry, rfl, k, kj, all⟩
        rw [← hl, List.take_length] at all
        have hall : ds.all entryD = true := List.all_eq_true.mpr all
        have ids : ∀ j (hj : j < ds.length), (ds.map idOfD)[j]? = some (idOfD ds[j]) := fun j hj => by rw [List.getElem?_map, List.getElem?_eq_getElem hj]; rfl
        have hx1 : RpAll (kd :: ex) H' ds xs := RpAll.keep (k.mono (by simp)) _ _ hx0
        refine ⟨_, rfl, a, rfl, ⟨_, aT k⟩, a, xs, ds.map idOfD, rfl, aT k, by rw [List.length_map]; exact hl, by rw [List.length_map]; omega, fun j x z H2 Q2 hx hz k2 q2 => ?_, fun D n hn1 hn2 nD => ?_⟩
        · have hj : j < ds.length := by rw [hl]; exact (List.getElem?_eq_some_iff.mp hx).1
          obtain ⟨e, he1, he2⟩ := RpAll.back hx1 hx
          obtain ⟨kk, zz, r, rfl, _⟩ := entry_shape (all e (List.mem_of_getElem? he1))
          obtain ⟨b, ys, rfl, nb, hb, hys⟩ := Rp.keep (k2.mono (by simp)) _ _ he2
          have ez : zz = z := by
            rw [List.getElem?_map, he1] at hz
            exact Option.some.inj hz
          refine ⟨_, rfl, ixD (j := 1) rfl hb hys rfl fun vz rz => ?_⟩
          obtain rfl : vz = .str zz := rz
          rw [ez]
          exact q2
        · have kD : Kp [] H' (upd H' D (SetT P w D (fun j => decide (j ∈ ds.map idOfD)) n)) := Kp.laid nD
          refine ⟨D, _, n, rfl, upd_same, _, rfl, a, xs, rfl, .inr (aT (k.trans (kD.mono (by simp)))), rfl, ?_⟩
          have e : decide (V.int (n : Int) = V.int (xs.length : Int)) = logDn m (.tuple ds) := by
            rw [ld true true _ (decide_eq_true (by omega)) hall rfl, Bool.true_and, Bool.true_and, decide_eq_decide]
            rw [List.length_map] at hn2
            rw [← hn2, ← hl]
            exact ⟨fun z => by injection z with z; omega, fun z => by rw [z]⟩
          rw [e]
          exact q _ ((back k).trans kD)
theorem ok_plog (DIsLog : Fn K mg "is_log" sIsLog ["value"]) (DIsLogWithin : Fn K mg "is_log_within" sIsLogWithin ["value", "most"]) (g1 : ∃ u, mg "MOST_ENTRIES" = some u ∧ L2.RelV (.int 60) u)
    (GIsLogWithin : FnOk P w K mg base CX0 5 DIsLogWithin.f DIsLogWithin.fd ["value", "most"] spAskN) : FnOk P w K mg base CX0 6 DIsLog.f DIsLog.fd ["value"] (spAskD logD') := by
  refine DIsLog.F.ok scIsLog (fun vs H Q E h => ?_) (fun cdv A outer s H vs Q E hr h => ?_)
  · obtain ⟨v, d, ex, rfl, _⟩ := h
    rfl
  obtain ⟨v, d, ex, rfl, hd, hn, q⟩ := h
  refine ⟨_, pss_one (ps_ret (pe_fn DIsLogWithin GIsLogWithin hr (pa_cons (pv 0) (pa_cons (pe_gc (v := .int 60) rfl g1) pa_nil)))), ?_⟩
  exact ⟨_, rfl, v, d, 60, ex, rfl, by decide, hd, hn, fun H' k => by rw [logDn_60]; exact q H' k⟩
end
end NV
/-! EntIx -/
set_option Elab.async false
set_option linter.all false
set_option maxRecDepth 100000
set_option maxHeartbeats 600000
/-! an entry's items by their places, and small rules -/
namespace NV
open PySem PySem.Spec PyProof.Rows L2
open C8 (pss_cut pe_gc)
theorem Live.kp0 {ex : List Addr} {H H' : Hp} (l : Live ex H) (k : Kp [] H H') : Live ex H' := fun b hb e => by
  cases h : H b with
  | none => exact l b hb h
  | some u => rw [k b u (by simp) h] at e; cases e
/-- the places of an entry's items -/
theorem ent_writes {e : Ent} (h : e.isW = true) : ∃ ds, e.data = .tuple ds ∧ ds[3]? = some (.tuple (e.ws.map .str)) ∧ ds[4]? = some (prD e.pr) := by
  cases e with
  | wr id rs ws pr => exact ⟨_, rfl, rfl, rfl⟩
  | qu id cs => cases h
theorem ent_reads (e : Ent) : ∃ ds, e.data = .tuple ds ∧ ds[1]? = some (.str e.id) ∧ ds[2]? = some (.tuple (e.rs.map .str)) := by
  cases e with
  | wr id rs ws pr => exact ⟨_, rfl, rfl, rfl⟩
  | qu id cs => exact ⟨_, rfl, rfl, rfl⟩
theorem strs_of {ex : List Addr} {H : Hp} : ∀ {zs : List Str} {xs : List V}, RpAll ex H (zs.map PyData.str) xs → xs = zs.map V.str
  | [], _, h => h
  | z :: zs, _, h => by
    obtain ⟨v, ws, rfl, h1, h2⟩ := h
    obtain rfl : v = .str z := h1
    rw [strs_of h2]
    rfl
/-- an item of an entry, by its place -/
theorem ent_ix {K : PySem.W.Frag} {ex : List Addr} {H : Hp} {e : Ent} {v : V} {ds : List PyData} {d : PyData} {j : Nat} {i : Int} {Q : VK} (r : Rp ex H e.data v) (ed : e.data = .tuple ds) (hj : ds[j]? = some d) (ei : i = (j : Int)) (q : ∀ u, Rp ex H d u → Q u H) : rIxT K v (.int i) H Q := by
  rw [ed] at r
  obtain ⟨a, xs, rfl, _, ha, hx⟩ := r
  exact ixD ei ha hx hj q
theorem c_of {v : V} {σ : L2.St} {H : Hp} {Q : VK} (h : Q v H) : tC v σ H Q := h
theorem ent_kind (e : Ent) : ∃ ds, e.data = .tuple ds ∧ ds[0]? = some (.str (if e.isW then "write" else "query")) := by
  cases e with
  | wr id rs ws pr => exact ⟨_, rfl, rfl⟩
  | qu id cs => exact ⟨_, rfl, rfl⟩
theorem pg_tupE {X : Cx} (K : PySem.W.Frag) {es : List Expr} {k : Nat} {t : TGs} {n : Nat} {pos : Pos} (hc : X.calm = true) (h : PGs X es t) (hK : X.K = K := by rfl)
    (hn : (assignEach es X.env).length = n := by rfl) (hst : (assignEach es X.env).findIdx? (·.1) = none := by rfl) : PG X (.Tuple es k pos) (gTup K n t) := by
  rw [← hK]
  exact pg_tup hc h hn hst
/-- a statement that is never reached -/
theorem ps_dead {X : Cx} (st : Stmt) : PS X st (fun _ _ _ => False) := ⟨fun _ _ _ _ _ _ h => h.elim⟩
theorem yes_on {σ : L2.St} {H : Hp} {A B : Hp → Prop} (h : A H) : tYes σ H (fun b H3 => if b = true then A H3 else B H3) := by
  delta tYes
  dsimp only
  rw [if_pos rfl]
  exact h
theorem ok_cells_nd {l : Nat} {cs : List Str} (h : CellsOk l cs) : cs.Nodup := h.asc.nodup
theorem Ent.Ok.rs {e : Ent} (h : e.Ok) : e.rs.Nodup ∧ e.rs.length ≤ 3 := by
  cases e with
  | wr id rs ws pr => exact ⟨h.2.1.asc.nodup, h.2.1.hi⟩
  | qu id cs => exact ⟨h.2.asc.nodup, h.2.hi⟩
theorem Ent.Ok.ws {e : Ent} (h : e.Ok) : e.ws.Nodup ∧ e.ws.length ≤ 3 := by
  cases e with
  | wr id rs ws pr => exact ⟨h.2.2.1.asc.nodup, h.2.2.1.hi⟩
  | qu id cs => exact ⟨.nil, Nat.zero_le _⟩
theorem nodup_take {l : List Str} {j : Nat} {c : Str} (nd : l.Nodup) (h : l[j]? = some c) : c ∉ l.take j := fun z => by
  obtain ⟨i, hi, e⟩ := List.mem_iff_getElem.mp z
  rw [List.length_take] at hi
  rw [List.getElem_take] at e
  have hj := (List.getElem?_eq_some_iff.mp h)
  obtain ⟨hj, e2⟩ := hj
  have := (List.nodup_iff_pairwise_ne.mp nd)
  rw [List.pairwise_iff_getElem] at this
  exact this i j (by omega) hj (by omega) (by rw [e, e2])
/-- a comprehension by what holds at each turn -/
theorem lc_inv {J : It} {g : TG} {tt : TT} {te : TE} {vs : List Nat} {σ : L2.St} {C : Addr} {H1 : Hp} {Qd : Hp → Prop} (n : Nat) (Pv : Nat → Hp → Prop) (h0 : Pv 0 (upd H1 C (.lst []))) (hd : ∀ H, Pv n H → J.stop n H ∧ Qd H) (hgo : ∀ i H, i < n → Pv i H → J.go i H)
    (hs : ∀ i H x H', i < n → Pv i H → J.yld i H x H' → g x (wipe σ vs) H' fun σ2 H2 => wipe σ2 vs = wipe σ vs ∧ tt σ2 H2 fun b H3 => if b = true then te σ2 H3 fun y H4 => ∃ acc, H4 C = some (.lst acc) ∧ acc.length < sizeLine ∧ Pv (i + 1) (upd H4 C (.lst (acc ++ [y]))) else Pv (i + 1) H3) :
    ∃ W : Nat → Nat → Hp → Prop, (∃ m, W 0 m (upd H1 C (.lst []))) ∧ ∀ i m H, W i m H →
      (J.stop i H ∧ Qd H) ∨ (J.go i H ∧ ∃ Nx : Hp → Prop, (∀ H', Nx H' → ∃ m', m' < m ∧ W (i + 1) m' H') ∧ ∀ x H', J.yld i H x H' → g x (wipe σ vs) H' fun σ2 H2 => wipe σ2 vs = wipe σ vs ∧ tt σ2 H2 fun b H3 =>
        if b = true then te σ2 H3 fun y H4 => ∃ acc, H4 C = some (.lst acc) ∧ acc.length < sizeLine ∧ Nx (upd H4 C (.lst (acc ++ [y]))) else Nx H3) := by
  refine ⟨fun i m H => m = n - i ∧ i ≤ n ∧ Pv i H, ⟨n, by simp, Nat.zero_le _, h0⟩, ?_⟩
  rintro i m H ⟨rfl, hi, p⟩
  rcases Nat.lt_or_ge i n with lt | ge
  · exact .inr ⟨hgo i H lt p, Pv (i + 1), fun H' q => ⟨n - (i + 1), by omega, rfl, lt, q⟩, fun x H' y => hs i H x H' lt p y⟩
  · obtain rfl : i = n := by omega
    exact .inl (hd H p)
end NV
/-! CkL -/
set_option Elab.async false
set_option linter.all false
set_option maxRecDepth 100000
set_option maxHeartbeats 1000000
/-! the package's check_log -/
namespace NV
open PySem PySem.Spec PyProof.Rows L2
open C8 (pss_cut pe_gc)
abbrev sCheckLog : Stmt := topS 32
theorem scCheckLog : FnScope ["log"] ["log"] (defScope sCheckLog) := ⟨rfl, rfl, rfl, by decide +kernel, rfl, by decide +kernel, by decide +kernel⟩
def spCheck : Sp := fun vs H Q _ => ∃ (v : V) (es : List Ent) (ex : List Addr), vs = [v] ∧ Rp ex H (logD es) v ∧ LogOk es ∧ es.length ≤ 60 ∧ ∀ H', Kp [] H H' → Q .non H'
section
variable {P : Program} {w : World} {K : PySem.W.Frag} {mg : Str → Option Value} {base : Heap}
theorem ok_checklog (DCheckLog : Fn K mg "check_log" sCheckLog ["log"]) (DIsLog : Fn K mg "is_log" sIsLog ["value"]) (GIsLog : FnOk P w K mg base CX0 6 DIsLog.f DIsLog.fd ["value"] (spAskD logD')) : FnOk P w K mg base CX0 7 DCheckLog.f DCheckLog.fd ["log"] spCheck := by
  refine DCheckLog.F.ok scCheckLog (fun vs H Q E h => ?_) (fun cdv A outer s H vs Q E hr h => ?_)
  · obtain ⟨v, es, ex, rfl, _⟩ := h
    rfl
  obtain ⟨v, es, ex, rfl, rv, ok, h60, q⟩ := h
  refine ⟨_, pss_one (ps_if (pt_not (pt_val (pe_fn DIsLog GIsLog hr (pa_cons (pv 0) pa_nil))))
      (pss_one (ps_dead _))
      pss_nil), ?_⟩
  obtain ⟨n1, _, _⟩ := log_nice ok.ok
  refine ⟨_, rfl, v, logD es, ex, rfl, rv, n1, fun H' k => ⟨_, rfl, ?_⟩⟩
  have e : logD' (logD es) = true := by
    show logD' (.tuple (es.map Ent.data)) = true
    rw [log_data ok.ok, decide_eq_true h60, decide_eq_true ok.nd]
    rfl
  rw [e]
  exact iteF (q H' k)
end
end NV
/-! Lv -/
set_option Elab.async false
set_option linter.all false
set_option maxRecDepth 100000
set_option maxHeartbeats 600000
/-! entries that are not retracted; small matters -/
namespace NV
open PySem PySem.Spec PyProof.Rows L2
def liveB (es : List Ent) (gone : List Str) : List Ent := es.filter fun e => decide (e.id ∉ gone)
theorem kp_none {H H' : Hp} {p : Addr} (k : Kp [] H H') (h : H' p = none) : H p = none := by
  cases e : H p with
  | none => rfl
  | some o => rw [k _ _ (by simp) e] at h; cases h
theorem id_ne {e : Ent} (h : e.Ok) : e.id ≠ "" := fun z => by
  have : idB e.id = true := by
    cases e with
    | wr _ _ _ _ => exact h.1
    | qu _ _ => exact h.1
  rw [z] at this
  exact absurd this (by decide)
end NV
/-! T2 -/
set_option Elab.async false
set_option linter.all false
set_option maxRecDepth 100000
set_option maxHeartbeats 600000
/-! what a target depends on: the log without some writes, the positions met -/
namespace NV
open PySem PySem.Spec PyProof.Rows L2
def backL (l : List Ent) (rows : List Row) : List Row := l.foldr stepT rows
theorem back_take {es : List Ent} {k : Nat} {row : Row} (hk : k ≤ es.length) : ∀ n, n ≤ k → backN es k row n = backL ((es.take k).drop (k - n)) [row]
  | 0, _ => by
    rw [Nat.sub_zero, List.drop_of_length_le (by rw [List.length_take]; omega)]
    rfl
  | n + 1, hn => by
    have ih := back_take (row := row) hk n (by omega)
    have hj : k - (n + 1) < (es.take k).length := by rw [List.length_take]; omega
    rw [List.drop_eq_getElem_cons hj, show k - (n + 1) + 1 = k - n by omega]
    unfold backN backL
    rw [List.foldr_cons, List.getElem_take, List.getElem?_eq_getElem (show k - (n + 1) < es.length by omega)]
    dsimp only
    rw [ih]
    rfl
theorem back_all {es : List Ent} {k : Nat} {row : Row} (hk : k ≤ es.length) : backN es k row k = backL (es.take k) [row] := by
  have := back_take (row := row) hk k (Nat.le_refl _)
  rwa [Nat.sub_self, List.drop_zero] at this
/-- a retracted write, as if it read and wrote nothing -/
def bl (gone : List Str) (e : Ent) : Ent := if e.id ∈ gone then .wr e.id [] [] none else e
theorem bl_id (gone : List Str) (e : Ent) : (bl gone e).id = e.id := by
  unfold bl
  split <;> rfl
theorem step_none {e : Ent} (h : e.ws = []) (rows : List Row) : stepT e rows = rows := by
  have no : rows.any (openIn e) = false := by
    rw [List.any_eq_false]
    intro r _
    unfold openIn
    rw [h]
    simp
  unfold stepT
  rw [no, if_neg Bool.false_ne_true]
theorem back_live (gone : List Str) : ∀ (l : List Ent) (rows : List Row), backL (liveB l gone) rows = backL (l.map (bl gone)) rows
  | [], _ => rfl
  | e :: l, rows => by
    have ih := back_live gone l rows
    unfold liveB at ih ⊢
    rw [List.filter_cons, List.map_cons]
    by_cases h : e.id ∈ gone
    · rw [if_neg (by simp [h])]
      have hb : bl gone e = .wr e.id [] [] none := if_pos h
      show _ = stepT (bl gone e) (backL (l.map (bl gone)) rows)
      rw [hb, step_none rfl, ih]
    · rw [if_pos (by simp [h])]
      have hb : bl gone e = e := if_neg h
      show stepT e (backL _ rows) = stepT (bl gone e) (backL (l.map (bl gone)) rows)
      rw [hb, ih]
/-! ### the positions met, the last first -/
def metL (es : List Ent) (q : Ask) : Nat → List Nat
  | 0 => []
  | n + 1 => if hits es (q.2.2 - (n + 1)) (asks es q n) then metL es q n ++ [q.2.2 - (n + 1)] else metL es q n
theorem asks_succ (es : List Ent) (q : Ask) (n : Nat) : asks es q (n + 1) = if hits es (q.2.2 - (n + 1)) (asks es q n) then asks es q n ++ asksAt es (q.2.2 - (n + 1)) else asks es q n := rfl
theorem metL_succ (es : List Ent) (q : Ask) (n : Nat) : metL es q (n + 1) = if hits es (q.2.2 - (n + 1)) (asks es q n) then metL es q n ++ [q.2.2 - (n + 1)] else metL es q n := rfl
theorem asks_met (es : List Ent) (q : Ask) : ∀ n, asks es q n = q :: (metL es q n).flatMap (asksAt es)
  | 0 => rfl
  | n + 1 => by
    have ih := asks_met es q n
    rw [asks_succ, metL_succ]
    by_cases h : hits es (q.2.2 - (n + 1)) (asks es q n) = true
    · rw [if_pos h, if_pos h, List.flatMap_append, ih]
      simp
    · rw [if_neg h, if_neg h, ih]
theorem asks_mono {es : List Ent} {q : Ask} : ∀ {n m : Nat}, n ≤ m → ∀ r ∈ asks es q n, r ∈ asks es q m
  | n, 0, h, r, hr => by
    obtain rfl : n = 0 := by omega
    exact hr
  | n, m + 1, h, r, hr => by
    by_cases e : n = m + 1
    · rw [← e]; exact hr
    · have := asks_mono (show n ≤ m by omega) r hr
      unfold asks
      split
      · exact List.mem_append_left _ this
      · exact this
theorem met_range {es : List Ent} {q : Ask} : ∀ {n : Nat}, n ≤ q.2.2 → ∀ p ∈ metL es q n, q.2.2 - n ≤ p ∧ p < q.2.2
  | 0, _, p, h => by cases h
  | n + 1, hn, p, h => by
    unfold metL at h
    split at h
    · rcases List.mem_append.mp h with z | z
      · have := met_range (n := n) (by omega) p z
        omega
      · rw [List.mem_singleton.mp z]
        omega
    · have := met_range (n := n) (by omega) p h
      omega
/-- strictly falling -/
theorem met_falls {es : List Ent} {q : Ask} : ∀ {n : Nat}, n ≤ q.2.2 → (metL es q n).Pairwise (· > ·)
  | 0, _ => List.Pairwise.nil
  | n + 1, hn => by
    have ih := met_falls (es := es) (q := q) (n := n) (by omega)
    unfold metL
    split
    · refine List.pairwise_append.mpr ⟨ih, List.pairwise_singleton _ _, fun a ha b hb => ?_⟩
      have := met_range (n := n) (by omega) a ha
      rw [List.mem_singleton.mp hb]
      omega
    · exact ih
/-- a position is met just if some row that is asked has its source there -/
theorem mem_met {es : List Ent} {q : Ask} : ∀ {n : Nat}, n ≤ q.2.2 → ∀ p, p ∈ metL es q n ↔ q.2.2 - n ≤ p ∧ ∃ r ∈ asks es q n, lastIx es r.2.2 r.2.1 = some p
  | 0, _, p => by
    constructor
    · intro h; cases h
    · rintro ⟨h1, r, hr, h2⟩
      rw [List.mem_singleton.mp hr] at h2
      have := (lastIx_lt h2).1
      omega
  | n + 1, hn, p => by
    have ih := mem_met (es := es) (q := q) (n := n) (by omega)
    have key : hits es (q.2.2 - (n + 1)) (asks es q n) = true ↔ ∃ r ∈ asks es q n, lastIx es r.2.2 r.2.1 = some (q.2.2 - (n + 1)) := by
      unfold hits
      rw [List.any_eq_true]
      constructor
      · rintro ⟨r, hr, h⟩; exact ⟨r, hr, of_decide_eq_true h⟩
      · rintro ⟨r, hr, h⟩; exact ⟨r, hr, decide_eq_true h⟩
    rw [metL_succ, asks_succ]
    by_cases h : hits es (q.2.2 - (n + 1)) (asks es q n) = true
    · rw [if_pos h, if_pos h]
      constructor
      · intro hp
        rcases List.mem_append.mp hp with z | z
        · obtain ⟨h1, r, hr, h2⟩ := (ih p).1 z
          exact ⟨by omega, r, List.mem_append_left _ hr, h2⟩
        · rw [List.mem_singleton.mp z]
          obtain ⟨r, hr, h2⟩ := key.1 h
          exact ⟨Nat.le_refl _, r, List.mem_append_left _ hr, h2⟩
      · rintro ⟨h1, r, hr, h2⟩
        rcases List.mem_append.mp hr with z | z
        · by_cases e : p = q.2.2 - (n + 1)
          · exact List.mem_append_right _ (by rw [e]; simp)
          · exact List.mem_append_left _ ((ih p).2 ⟨by omega, r, z, h2⟩)
        · have hpos : r.2.2 = q.2.2 - (n + 1) := by
            unfold asksAt at z
            split at z
            · obtain ⟨c, _, rfl⟩ := List.mem_map.mp z
              rfl
            · cases z
          have := (lastIx_lt h2).1
          omega
    · rw [if_neg h, if_neg h]
      constructor
      · intro hp
        obtain ⟨h1, r, hr, h2⟩ := (ih p).1 hp
        exact ⟨by omega, r, hr, h2⟩
      · rintro ⟨h1, r, hr, h2⟩
        by_cases e : p = q.2.2 - (n + 1)
        · exact absurd (key.2 ⟨r, hr, by rw [h2, e]⟩) h
        · exact (ih p).2 ⟨by omega, r, hr, h2⟩
/-- the sources reached from the target -/
inductive Reach (es : List Ent) (q : Ask) : Nat → Prop
  | base {p : Nat} (h : lastIx es q.2.2 q.2.1 = some p) : Reach es q p
  | step {p j : Nat} {e : Ent} {c : Str} (r : Reach es q j) (he : es[j]? = some e) (hc : c ∈ e.rs) (h : lastIx es j c = some p) : Reach es q p
theorem reach_lt {es : List Ent} {q : Ask} {p : Nat} (r : Reach es q p) : p < q.2.2 := by
  induction r with
  | base h => exact (lastIx_lt h).1
  | step _ _ _ h ih =>
    have := (lastIx_lt h).1
    omega
theorem asks_reach {es : List Ent} {q : Ask} : ∀ {n : Nat}, n ≤ q.2.2 → ∀ r ∈ asks es q n, r = q ∨ ∃ j e c, Reach es q j ∧ es[j]? = some e ∧ c ∈ e.rs ∧ r = (e.id, c, j)
  | 0, _, r, hr => .inl (List.mem_singleton.mp hr)
  | n + 1, hn, r, hr => by
    have ih := asks_reach (es := es) (q := q) (n := n) (by omega)
    unfold asks at hr
    split at hr
    · rename_i hh
      rcases List.mem_append.mp hr with z | z
      · exact ih r z
      · unfold hits at hh
        obtain ⟨r', hr', h2⟩ := List.any_eq_true.mp hh
        have h2 := of_decide_eq_true h2
        have R : Reach es q (q.2.2 - (n + 1)) := by
          rcases ih r' hr' with rfl | ⟨j, e, c, R, he, hc, rfl⟩
          · exact .base h2
          · exact .step R he hc h2
        unfold asksAt at z
        cases he : es[q.2.2 - (n + 1)]? with
        | none => rw [he] at z; cases z
        | some e =>
          rw [he] at z
          obtain ⟨c, hc, rfl⟩ := List.mem_map.mp z
          exact .inr ⟨_, e, c, R, he, hc, rfl⟩
    · exact ih r hr
theorem met_iff {es : List Ent} {q : Ask} (p : Nat) : p ∈ metL es q q.2.2 ↔ Reach es q p := by
  have me : p ∈ metL es q q.2.2 ↔ ∃ r ∈ asks es q q.2.2, lastIx es r.2.2 r.2.1 = some p := by
    rw [mem_met (Nat.le_refl _) p]
    exact ⟨fun h => h.2, fun h => ⟨by omega, h⟩⟩
  constructor
  · intro h
    obtain ⟨r, hr, h2⟩ := me.1 h
    rcases asks_reach (Nat.le_refl _) r hr with rfl | ⟨j, e, c, R, he, hc, rfl⟩
    · exact .base h2
    · exact .step R he hc h2
  · intro R
    induction R with
    | base h =>
      rw [mem_met (Nat.le_refl _)]
      exact ⟨by omega, q, by rw [asks_met]; exact List.mem_cons_self, h⟩
    | @step p j e c R he hc h ih =>
      have hj := ih (by rw [mem_met (Nat.le_refl _)]; exact ⟨fun z => z.2, fun z => ⟨by omega, z⟩⟩)
      rw [mem_met (Nat.le_refl _)]
      refine ⟨by omega, (e.id, c, j), ?_, h⟩
      rw [asks_met]
      refine List.mem_cons_of_mem _ (List.mem_flatMap.mpr ⟨j, hj, ?_⟩)
      unfold asksAt
      rw [he]
      exact List.mem_map.mpr ⟨c, hc, rfl⟩
/-- what the rows say -/
def rowsOf (es : List Ent) (q : Ask) : List Row := (asks es q q.2.2).map (rowA es 0)
theorem rows_back {es : List Ent} {q : Ask} (hk : q.2.2 ≤ es.length) : backL (es.take q.2.2) [(q.1, q.2.1, none)] = rowsOf es q := by
  rw [← back_all hk, back_asks hk q.2.2 (Nat.le_refl _), Nat.sub_self]
  rfl
/-- the rows in the log without the retracted writes -/
theorem rows_live {es : List Ent} {gone : List Str} {q : Ask} (hk : q.2.2 ≤ es.length) : backL (liveB (es.take q.2.2) gone) [(q.1, q.2.1, none)] = rowsOf (es.map (bl gone)) q := by
  rw [back_live, List.map_take]
  exact rows_back (by rw [List.length_map]; exact hk)
end NV
/-! N1 -/
set_option Elab.async false
set_option linter.all false
set_option maxRecDepth 100000
set_option maxHeartbeats 600000
/-! what a target needs, and what it costs to need it -/
namespace NV
open PySem PySem.Spec PyProof.Rows L2
/-- what stands in c ahead of position i is needed by the target q when the writes in gone are retracted -/
inductive Needs (es : List Ent) (gone : List Str) (q : Ask) : Nat → Str → Prop
  | base : Needs es gone q q.2.2 q.2.1
  | pass {j : Nat} {e : Ent} {c : Str} (n : Needs es gone q (j + 1) c) (he : es[j]? = some e) (h : c ∉ e.ws ∨ e.id ∈ gone) : Needs es gone q j c
  | read {j : Nat} {e : Ent} {c r : Str} (n : Needs es gone q (j + 1) c) (he : es[j]? = some e) (hc : c ∈ e.ws) (hg : e.id ∉ gone) (hr : r ∈ e.rs) : Needs es gone q j r
/-- a target: the end, or a query and a cell that it asks for -/
def Goal (es : List Ent) (q : Ask) : Prop := q.2.2 = es.length ∨ ∃ e, es[q.2.2]? = some e ∧ e.isW = false ∧ q.2.1 ∈ e.rs
/-- the total price of those in gone -/
def priceG (gone : List Str) : List Ent → Int
  | [] => 0
  | e :: l => (if e.id ∈ gone then e.pr.getD 0 else 0) + priceG gone l
def GoneW (es : List Ent) (gone : List Str) : Prop := ∀ e ∈ es, e.id ∈ gone → e.isW = true ∧ e.pr ≠ none
/-! ### one entry more -/
theorem readersC_le (e : Ent) (w : Way) (o : Str → Way) (c : Str) : leC 0 (costW (readers e w o c)) (costW (o c)) := by
  unfold readers
  by_cases h : c ∈ e.rs
  · rw [if_pos h]
    match w with
    | none => exact leC.refl (Int.le_refl _) _
    | some (k, p) => exact better_le (Int.le_refl _) _ (leC.refl (Int.le_refl _) _)
  · rw [if_neg h]
    exact leC.refl (Int.le_refl _) _
theorem leC.trans0 {s : Int} {x y z : Cost} (a : leC 0 x y) (b : leC s y z) : leC s x z := fun k e => by
  obtain ⟨m, hm, h1⟩ := b k e
  obtain ⟨n, hn, h2⟩ := a m hm
  exact ⟨n, hn, by omega⟩
theorem on_free {e : Ent} {o : Str → Way} {c : Str} (h : c ∉ e.ws) : leC 0 (costW (stepB e o c)) (costW (o c)) := by
  cases e with
  | wr id rs ws pr =>
    have b : blocked (.wr id rs ws pr) o c = o c := if_neg h
    have := readersC_le (.wr id rs ws pr) (wayFrom o ws) (blocked (.wr id rs ws pr) o) c
    rw [b] at this
    exact this
  | qu id cs => exact readersC_le (.qu id cs) (some (0, [])) o c
theorem on_paid {e : Ent} {o : Str → Way} {c : Str} {i : Int} (h0 : 0 ≤ i) (hp : e.pr = some i) : leC i (costW (stepB e o c)) (costW (o c)) := by
  cases e with
  | wr id rs ws pr =>
    obtain rfl : pr = some i := hp
    refine leC.trans0 (readersC_le (.wr id rs ws (some i)) (wayFrom o ws) (blocked (.wr id rs ws (some i)) o) c) ?_
    unfold blocked
    split
    · exact cost_past_self _
    · exact leC.refl h0 _
  | qu id cs => cases hp
theorem readers_yes {e : Ent} {w : Way} {o : Str → Way} {c : Str} (h : c ∈ e.rs) : leC 0 (costW (readers e w o c)) (costW w) := by
  unfold readers
  rw [if_pos h]
  intro b hb
  match w, hb with
  | some (k, p), hb =>
    obtain rfl : k = b := Option.some.inj hb
    rw [cost_better]
    cases costW (o c) with
    | none => exact ⟨k, rfl, by omega⟩
    | some m => exact ⟨min k m, rfl, by omega⟩
theorem on_read {e : Ent} {o : Str → Way} {c : Str} (hw : e.isW = true) (h : c ∈ e.rs) : leC 0 (costW (stepB e o c)) (costW (wayFrom o e.ws)) := by
  cases e with
  | wr id rs ws pr => exact readers_yes h
  | qu id cs => cases hw
theorem on_query {e : Ent} {o : Str → Way} {c : Str} (hw : e.isW = false) (h : c ∈ e.rs) : leC 0 (costW (stepB e o c)) (some 0) := by
  cases e with
  | wr id rs ws pr => cases hw
  | qu id cs => exact readers_yes (e := .qu id cs) (w := some (0, [])) (o := o) h
theorem fromC_le {o : Str → Way} {ws : List Str} {c : Str} (h : c ∈ ws) : leC 0 (costW (wayFrom o ws)) (costW (o c)) := by
  intro b e
  cases ho : o c with
  | none => rw [ho] at e; cases e
  | some y =>
    rw [ho] at e
    have e : y.1 = b := Option.some.inj e
    have hin : y ∈ ws.filterMap o := List.mem_filterMap.mpr ⟨c, h, ho⟩
    obtain ⟨m, hm, _, hl⟩ := (minW_iff (ws.filterMap o)).2 (fun z => by rw [z] at hin; cases hin)
    refine ⟨m.1, by unfold wayFrom; rw [hm]; rfl, ?_⟩
    have := hl y hin
    omega
theorem fromC_some {o : Str → Way} {ws : List Str} {k : Int} (h : costW (wayFrom o ws) = some k) : ∃ c ∈ ws, costW (o c) = some k := by
  have ne : ws.filterMap o ≠ [] := fun z => by
    have := (minW_iff (ws.filterMap o)).1 z
    unfold wayFrom at h
    rw [this] at h
    cases h
  obtain ⟨m, hm, hmem, _⟩ := (minW_iff (ws.filterMap o)).2 ne
  unfold wayFrom at h
  rw [hm] at h
  obtain ⟨c, hc, ho⟩ := List.mem_filterMap.mp hmem
  exact ⟨c, hc, by rw [ho]; exact h⟩
/-- where the cost of an entry more comes from -/
theorem on_cases {e : Ent} {o : Str → Way} {c : Str} {k : Int} (h : costW (stepB e o c) = some k) :
    (c ∉ e.ws ∧ costW (o c) = some k) ∨ (c ∈ e.ws ∧ ∃ i k', e.pr = some i ∧ costW (o c) = some k' ∧ k = k' + i) ∨ (c ∈ e.rs ∧ e.isW = false ∧ k = 0) ∨ (c ∈ e.rs ∧ e.isW = true ∧ costW (wayFrom o e.ws) = some k) := by
  have reads : ∀ (w : Way) (u : Str → Way), costW (readers e w u c) = some k → costW (u c) = some k ∨ (c ∈ e.rs ∧ costW w = some k) := by
    intro w u hk
    unfold readers at hk
    by_cases hc : c ∈ e.rs
    · rw [if_pos hc] at hk
      match w, hk with
      | none, hk => exact .inl hk
      | some (a, p), hk =>
        dsimp only at hk
        rw [cost_better] at hk
        cases hu : costW (u c) with
        | none =>
          rw [hu] at hk
          exact .inr ⟨hc, hk⟩
        | some m =>
          rw [hu] at hk
          have hk : min a m = k := Option.some.inj hk
          rcases Int.le_total a m with z | z
          · rw [Int.min_eq_left z] at hk
            exact .inr ⟨hc, by rw [← hk]; rfl⟩
          · rw [Int.min_eq_right z] at hk
            exact .inl (by rw [hk])
    · rw [if_neg hc] at hk
      exact .inl hk
  cases e with
  | wr id rs ws pr =>
    rcases reads (wayFrom o ws) (blocked (.wr id rs ws pr) o) h with z | ⟨z1, z2⟩
    · unfold blocked at z
      by_cases hc : c ∈ (Ent.wr id rs ws pr).ws
      · rw [if_pos hc] at z
        refine .inr (.inl ⟨hc, ?_⟩)
        have z : costW (past pr (o c)) = some k := z
        match ho : o c, pr, z with
        | some (a, p), some i, z =>
          exact ⟨i, a, rfl, rfl, (Option.some.inj z).symm⟩
        | some (a, p), none, z => cases z
        | none, _, z => cases z
      · rw [if_neg hc] at z
        exact .inl ⟨hc, z⟩
    · exact .inr (.inr (.inr ⟨z1, rfl, z2⟩))
  | qu id cs =>
    rcases reads (some (0, [])) o h with z | ⟨z1, z2⟩
    · exact .inl ⟨(fun y => by cases y), z⟩
    · exact .inr (.inr (.inl ⟨z1, rfl, (Option.some.inj z2).symm⟩))
/-! ### what is needed costs no more than what is retracted -/
theorem drop_cons {es : List Ent} {j : Nat} {e : Ent} (he : es[j]? = some e) : es.drop j = e :: es.drop (j + 1) := by
  obtain ⟨hj, h⟩ := List.getElem?_eq_some_iff.mp he
  rw [List.drop_eq_getElem_cons hj, h]
theorem on_drop {es : List Ent} {j : Nat} {e : Ent} (he : es[j]? = some e) (c : Str) : onB (es.drop j) c = stepB e (onB (es.drop (j + 1))) c := by
  rw [drop_cons he]
  rfl
theorem priceG_nn {gone : List Str} : ∀ {l : List Ent}, (∀ e ∈ l, e.Ok) → 0 ≤ priceG gone l
  | [], _ => Int.le_refl _
  | e :: l, h => by
    have ih := priceG_nn (gone := gone) (l := l) fun u hu => h u (List.mem_cons_of_mem _ hu)
    have he : 0 ≤ e.pr.getD 0 := by
      have := h e List.mem_cons_self
      cases e with
      | wr id rs ws pr =>
        cases pr with
        | none => exact Int.le_refl _
        | some i =>
          have := this.2.2.2 i rfl
          show 0 ≤ i
          omega
      | qu id cs => exact Int.le_refl _
    unfold priceG
    split <;> omega
theorem goal_zero {es : List Ent} {q : Ask} (g : Goal es q) : leC 0 (costW (onB (es.drop q.2.2) q.2.1)) (some 0) := by
  rcases g with g | ⟨e, he, hw, hr⟩
  · rw [g, List.drop_length]
    exact leC.refl (Int.le_refl _) _
  · rw [on_drop he]
    exact on_query hw hr
theorem le_some {s : Int} {x : Cost} {k : Int} (h : leC s x (some k)) : ∃ a, x = some a ∧ a ≤ k + s := h k rfl
theorem pr_ok {e : Ent} (h : e.Ok) {i : Int} (hp : e.pr = some i) : 1 ≤ i := by
  cases e with
  | wr id rs ws pr => exact (h.2.2.2 i hp).1
  | qu id cs => cases hp
/-- the price of those that keep p alone, and lie from j on -/
theorem needs_le {es : List Ent} {gone : List Str} {q : Ask} (ok : ∀ e ∈ es, e.Ok) (g : Goal es q) (gw : GoneW es gone) (K : Nat → Bool) (S : Nat → Int) (h0 : S q.2.2 ≥ 0) (hS : ∀ j e, es[j]? = some e → S j = (if e.id ∈ gone ∧ K j = true then e.pr.getD 0 else 0) + S (j + 1))
    (hK : ∀ j e c k, es[j]? = some e → c ∈ e.ws → Needs es gone q (j + 1) c → costW (onB (es.drop (j + 1)) c) = some k → k ≤ S (j + 1) → e.id ∈ gone → K j = true) {i : Nat} {c : Str} (n : Needs es gone q i c) :
    ∃ k, costW (onB (es.drop i) c) = some k ∧ k ≤ S i := by
  have sle : ∀ j e, es[j]? = some e → S (j + 1) ≤ S j := fun j e he => by
    have := hS j e he
    have oke := ok e (List.mem_of_getElem? he)
    have : 0 ≤ e.pr.getD 0 := by
      cases hp : e.pr with
      | none => exact Int.le_refl _
      | some i =>
        have := pr_ok oke hp
        show 0 ≤ i
        omega
    split at * <;> omega
  induction n with
  | base =>
    obtain ⟨k, hk, hl⟩ := le_some (goal_zero g)
    exact ⟨k, hk, by omega⟩
  | @pass j e c n he h ih =>
    obtain ⟨k, hk, hl⟩ := ih
    have hmono := sle j e he
    rw [on_drop he]
    by_cases hc : c ∈ e.ws
    · have hg : e.id ∈ gone := h.elim (fun z => absurd hc z) id
      obtain ⟨hw, hp⟩ := gw e (List.mem_of_getElem? he) hg
      cases hpr : e.pr with
      | none => exact absurd hpr hp
      | some i =>
        have h1 := pr_ok (ok e (List.mem_of_getElem? he)) hpr
        have hk' := hK j e c k he hc n hk hl hg
        have le := on_paid (o := onB (es.drop (j + 1))) (c := c) (by omega) hpr
        rw [hk] at le
        obtain ⟨a, ha, hle⟩ := le_some le
        have := hS j e he
        rw [if_pos ⟨hg, hk'⟩, hpr] at this
        exact ⟨a, ha, by simp only [Option.getD_some] at this; omega⟩
    · have le := on_free (o := onB (es.drop (j + 1))) hc
      rw [hk] at le
      obtain ⟨a, ha, hle⟩ := le_some le
      exact ⟨a, ha, by omega⟩
  | @read j e c r n he hc hg hr ih =>
    obtain ⟨k, hk, hl⟩ := ih
    have hmono := sle j e he
    rw [on_drop he]
    have hw : e.isW = true := by
      cases e with
      | wr _ _ _ _ => rfl
      | qu _ _ => cases hc
    have le := (on_read (o := onB (es.drop (j + 1))) hw hr).trans0 (fromC_le (o := onB (es.drop (j + 1))) hc)
    rw [hk] at le
    obtain ⟨a, ha, hle⟩ := le_some le
    exact ⟨a, ha, by omega⟩
theorem price_drop {es : List Ent} {gone : List Str} {j : Nat} {e : Ent} (he : es[j]? = some e) : priceG gone (es.drop j) = (if e.id ∈ gone then e.pr.getD 0 else 0) + priceG gone (es.drop (j + 1)) := by
  rw [drop_cons he]
  rfl
theorem needs_price {es : List Ent} {gone : List Str} {q : Ask} (ok : ∀ e ∈ es, e.Ok) (g : Goal es q) (gw : GoneW es gone) {i : Nat} {c : Str} (n : Needs es gone q i c) : ∃ k, costW (onB (es.drop i) c) = some k ∧ k ≤ priceG gone (es.drop i) := by
  refine needs_le ok g gw (fun _ => true) (fun j => priceG gone (es.drop j)) ?_ (fun j e he => ?_) (fun _ _ _ _ _ _ _ _ _ _ => rfl) n
  · exact priceG_nn fun e he => ok e (List.mem_of_mem_drop he)
  · rw [price_drop he]
    simp
/-! ### and the cost can be reached -/
theorem Needs.congr {es : List Ent} {gone gone' : List Str} {q : Ask} {i : Nat} {c : Str} (n : Needs es gone q i c) : (∀ j e, i ≤ j → es[j]? = some e → (e.id ∈ gone ↔ e.id ∈ gone')) → Needs es gone' q i c := by
  induction n with
  | base => exact fun _ => .base
  | @pass j e c n he h ih =>
    intro same
    exact .pass (ih fun j' e' hj => same j' e' (by omega)) he (h.imp id fun z => (same j e (Nat.le_refl _) he).1 z)
  | @read j e c r n he hc hg hr ih =>
    intro same
    exact .read (ih fun j' e' hj => same j' e' (by omega)) he hc (fun z => hg ((same j e (Nat.le_refl _) he).2 z)) hr
theorem priceG_congr {gone gone' : List Str} : ∀ {l : List Ent}, (∀ e ∈ l, (e.id ∈ gone ↔ e.id ∈ gone')) → priceG gone l = priceG gone' l
  | [], _ => rfl
  | e :: l, h => by
    have ih := priceG_congr (gone := gone) (gone' := gone') (l := l) fun u hu => h u (List.mem_cons_of_mem _ hu)
    unfold priceG
    rw [ih]
    congr 1
    by_cases z : e.id ∈ gone
    · rw [if_pos z, if_pos ((h e List.mem_cons_self).1 z)]
    · rw [if_neg z, if_neg (fun y => z ((h e List.mem_cons_self).2 y))]
theorem reach_price {es : List Ent} (nd : (es.map Ent.id).Nodup) : ∀ (m i : Nat), es.length - i = m → i ≤ es.length → ∀ (c : Str) (k : Int), costW (onB (es.drop i) c) = some k →
    ∃ (gone : List Str) (q : Ask), (∀ z ∈ gone, ∃ e ∈ es.drop i, e.id = z ∧ e.isW = true ∧ e.pr ≠ none) ∧ Goal es q ∧ i ≤ q.2.2 ∧ Needs es gone q i c ∧ priceG gone (es.drop i) = k
  | 0, i, hm, hi, c, k, h => by
    have e : i = es.length := by omega
    rw [e, List.drop_length] at h
    refine ⟨[], ("", c, i), (fun z hz => by cases hz), .inl e, Nat.le_refl _, .base, ?_⟩
    rw [e, List.drop_length]
    exact Option.some.inj h
  | m + 1, i, hm, hi, c, k, h => by
    obtain ⟨e, he⟩ : ∃ e, es[i]? = some e := ⟨_, List.getElem?_eq_getElem (by omega)⟩
    have ih := reach_price nd m (i + 1) (by omega) (by omega)
    rw [on_drop he] at h
    have fresh : ∀ gone : List Str, (∀ z ∈ gone, ∃ u ∈ es.drop (i + 1), u.id = z ∧ u.isW = true ∧ u.pr ≠ none) → e.id ∉ gone := fun gone hg z => by
      obtain ⟨u, hu, hid, _⟩ := hg _ z
      have nd2 : ((es.drop i).map Ent.id).Nodup := nd.sublist ((List.drop_sublist _ _).map _)
      rw [drop_cons he, List.map_cons, List.nodup_cons] at nd2
      exact nd2.1 (List.mem_map.mpr ⟨u, hu, hid⟩)
    have up : ∀ gone : List Str, (∀ z ∈ gone, ∃ u ∈ es.drop (i + 1), u.id = z ∧ u.isW = true ∧ u.pr ≠ none) → ∀ z ∈ gone, ∃ u ∈ es.drop i, u.id = z ∧ u.isW = true ∧ u.pr ≠ none := fun gone hg z hz => by
      obtain ⟨u, hu, r⟩ := hg z hz
      exact ⟨u, by rw [drop_cons he]; exact List.mem_cons_of_mem _ hu, r⟩
    rcases on_cases h with ⟨hc, hk⟩ | ⟨hc, p, k', hp, hk, rfl⟩ | ⟨hr, hw, rfl⟩ | ⟨hr, hw, hk⟩
    · obtain ⟨gone, q, hg, gq, hq, n, hpr⟩ := ih c k hk
      exact ⟨gone, q, up gone hg, gq, by omega, .pass n he (.inl hc), by rw [price_drop he, if_neg (fresh gone hg), hpr]; omega⟩
    · obtain ⟨gone, q, hg, gq, hq, n, hpr⟩ := ih c k' hk
      have hew : e.isW = true := by
        cases e with
        | wr _ _ _ _ => rfl
        | qu _ _ => cases hc
      have other : ∀ u ∈ es.drop (i + 1), u.id ≠ e.id := fun u hu z => by
        have nd2 : ((es.drop i).map Ent.id).Nodup := nd.sublist ((List.drop_sublist _ _).map _)
        rw [drop_cons he, List.map_cons, List.nodup_cons] at nd2
        exact nd2.1 (List.mem_map.mpr ⟨u, hu, z⟩)
      refine ⟨e.id :: gone, q, fun z hz => ?_, gq, by omega, .pass (n.congr fun j u hj hu => ?_) he (.inr List.mem_cons_self), ?_⟩
      · rcases List.mem_cons.mp hz with y | y
        · exact ⟨e, by rw [drop_cons he]; exact List.mem_cons_self, y.symm, hew, by rw [hp]; simp⟩
        · exact up gone hg z y
      · have hin : u ∈ es.drop (i + 1) := List.mem_iff_getElem?.mpr ⟨j - (i + 1), by rw [List.getElem?_drop, show i + 1 + (j - (i + 1)) = j by omega]; exact hu⟩
        exact ⟨fun z => List.mem_cons_of_mem _ z, fun z => (List.mem_cons.mp z).elim (fun y => absurd y (other u hin)) id⟩
      · rw [price_drop he, if_pos List.mem_cons_self, hp]
        have := priceG_congr (gone := gone) (gone' := e.id :: gone) (l := es.drop (i + 1)) fun u hu => ⟨fun z => List.mem_cons_of_mem _ z, fun z => (List.mem_cons.mp z).elim (fun y => absurd y (other u hu)) id⟩
        rw [← this, hpr]
        simp only [Option.getD_some]
        omega
    · refine ⟨[], (e.id, c, i), (fun z hz => by cases hz), .inr ⟨e, he, hw, hr⟩, Nat.le_refl _, .base, ?_⟩
      have none_ : ∀ l : List Ent, priceG [] l = 0 := fun l => by
        induction l with
        | nil => rfl
        | cons u l ih => unfold priceG; rw [ih]; simp
      exact none_ _
    · obtain ⟨c', hc', hk'⟩ := fromC_some hk
      obtain ⟨gone, q, hg, gq, hq, n, hpr⟩ := ih c' k hk'
      exact ⟨gone, q, up gone hg, gq, by omega, .read n he hc' (fresh gone hg) hr, by rw [price_drop he, if_neg (fresh gone hg), hpr]; omega⟩
end NV
/-! Pth -/
set_option Elab.async false
set_option linter.all false
set_option maxRecDepth 100000
set_option maxHeartbeats 600000
/-! the cheapest path itself: its steps, its blockers, what it reaches -/
namespace NV
open PySem PySem.Spec PyProof.Rows L2
/-- the writes of c from i on, ahead of j -/
def blkP (es : List Ent) (i j : Nat) (c : Str) : List Ent := ((es.drop i).take (j - i)).filter fun e => decide (c ∈ e.ws)
def sumP : List Ent → Int
  | [] => 0
  | e :: l => e.pr.getD 0 + sumP l
theorem sumP_app : ∀ a b : List Ent, sumP (a ++ b) = sumP a + sumP b
  | [], b => by simp [sumP]
  | e :: a, b => by
    have := sumP_app a b
    simp only [List.cons_append, sumP]
    omega
def Priced (l : List Ent) : Prop := ∀ e ∈ l, e.pr ≠ none
inductive PathOk (es : List Ent) : Nat → Str → Int → Path → List Ent → Prop
  | fin {i : Nat} {c : Str} (hi : i ≤ es.length) (h : Priced (blkP es i es.length c)) : PathOk es i c (sumP (blkP es i es.length c)) [("", c)] (blkP es i es.length c)
  | query {i j : Nat} {e : Ent} {c : Str} (hij : i ≤ j) (he : es[j]? = some e) (hw : e.isW = false) (hc : c ∈ e.rs) (h : Priced (blkP es i j c)) : PathOk es i c (sumP (blkP es i j c)) [(e.id, c)] (blkP es i j c)
  | read {i j : Nat} {e : Ent} {c c' : Str} {k : Int} {p : Path} {bs : List Ent} (hij : i ≤ j) (he : es[j]? = some e) (hw : e.isW = true) (hc : c ∈ e.rs) (h : Priced (blkP es i j c)) (hc' : c' ∈ e.ws) (r : PathOk es (j + 1) c' k p bs) :
      PathOk es i c (sumP (blkP es i j c) + k) ((e.id, c) :: p) (blkP es i j c ++ bs)
theorem better_cases {x y : Int × Path} {w : Way} (h : better x w = some y) : y = x ∨ w = some y := by
  cases w with
  | none => exact .inl (Option.some.inj h).symm
  | some z =>
    have h : (if wayLt x z = true then some x else some z) = some y := h
    by_cases hl : wayLt x z = true
    · rw [if_pos hl] at h; exact .inl (Option.some.inj h).symm
    · rw [if_neg hl] at h; exact .inr h
theorem from_mem {o : Str → Way} {ws : List Str} {x : Int × Path} (h : wayFrom o ws = some x) : ∃ c ∈ ws, o c = some x := by
  have ne : ws.filterMap o ≠ [] := fun z => by
    have := (minW_iff (ws.filterMap o)).1 z
    unfold wayFrom at h
    rw [this] at h
    cases h
  obtain ⟨m, hm, hmem, _⟩ := (minW_iff (ws.filterMap o)).2 ne
  unfold wayFrom at h
  rw [hm] at h
  obtain rfl := Option.some.inj h
  obtain ⟨c, hc, ho⟩ := List.mem_filterMap.mp hmem
  exact ⟨c, hc, ho⟩
theorem on_full {e : Ent} {o : Str → Way} {c : Str} {k : Int} {p : Path} (h : stepB e o c = some (k, p)) :
    (c ∉ e.ws ∧ o c = some (k, p)) ∨ (c ∈ e.ws ∧ ∃ i k', e.pr = some i ∧ o c = some (k', p) ∧ k = k' + i) ∨ (c ∈ e.rs ∧ e.isW = false ∧ k = 0 ∧ p = [(e.id, c)]) ∨ (c ∈ e.rs ∧ e.isW = true ∧ ∃ c' ∈ e.ws, ∃ p', o c' = some (k, p') ∧ p = (e.id, c) :: p') := by
  have reads : ∀ (w : Way) (u : Str → Way), readers e w u c = some (k, p) → u c = some (k, p) ∨ (c ∈ e.rs ∧ ∃ p', w = some (k, p') ∧ p = (e.id, c) :: p') := by
    intro w u hk
    unfold readers at hk
    by_cases hr : c ∈ e.rs
    · rw [if_pos hr] at hk
      cases w with
      | none => exact .inl hk
      | some x =>
        obtain ⟨k', p'⟩ := x
        rcases better_cases hk with z | z
        · obtain ⟨rfl, rfl⟩ := Prod.mk.inj z
          exact .inr ⟨hr, p', rfl, rfl⟩
        · exact .inl z
    · rw [if_neg hr] at hk
      exact .inl hk
  cases e with
  | wr id rs ws pr =>
    rcases reads (wayFrom o (Ent.wr id rs ws pr).ws) (blocked (.wr id rs ws pr) o) h with z | ⟨hr, p', hw, hp⟩
    · unfold blocked at z
      by_cases hc : c ∈ (Ent.wr id rs ws pr).ws
      · rw [if_pos hc] at z
        cases ho : o c with
        | none => rw [ho] at z; cases z
        | some x =>
          obtain ⟨k', p'⟩ := x
          rw [ho] at z
          unfold past at z
          cases hp : (Ent.wr id rs ws pr).pr with
          | none => rw [hp] at z; cases z
          | some i =>
            rw [hp] at z
            obtain ⟨rfl, rfl⟩ := Prod.mk.inj (Option.some.inj z)
            exact .inr (.inl ⟨hc, i, k', rfl, rfl, rfl⟩)
      · rw [if_neg hc] at z
        exact .inl ⟨hc, z⟩
    · obtain ⟨c', hc', ho⟩ := from_mem hw
      exact .inr (.inr (.inr ⟨hr, rfl, c', hc', p', ho, hp⟩))
  | qu id cs =>
    rcases reads (some (0, [])) o h with z | ⟨hr, p', hw, hp⟩
    · exact .inl ⟨(fun hc => by cases hc), z⟩
    · obtain ⟨rfl, rfl⟩ := Prod.mk.inj (Option.some.inj hw)
      exact .inr (.inr (.inl ⟨hr, rfl, rfl, hp⟩))
theorem blkP_nil (es : List Ent) (i : Nat) (c : Str) : blkP es i i c = [] := by
  unfold blkP
  rw [Nat.sub_self, List.take_zero]
  rfl
theorem blkP_succ {es : List Ent} {i j : Nat} {e : Ent} (he : es[i]? = some e) (hij : i < j) (c : Str) : blkP es i j c = (if c ∈ e.ws then [e] else []) ++ blkP es (i + 1) j c := by
  unfold blkP
  rw [drop_cons he, show j - i = (j - (i + 1)) + 1 by omega, List.take_succ_cons]
  by_cases hc : c ∈ e.ws
  · rw [if_pos hc, List.filter_cons_of_pos (by simp [hc])]
    rfl
  · rw [if_neg hc, List.filter_cons_of_neg (by simp [hc])]
    rfl
/-- the path from one entry on is a path from that entry -/
theorem path_free {es : List Ent} {i : Nat} {e : Ent} {c : Str} {k : Int} {p : Path} {bs : List Ent} (he : es[i]? = some e) (hc : c ∉ e.ws) (h : PathOk es (i + 1) c k p bs) : PathOk es i c k p bs := by
  have same : ∀ j, i + 1 ≤ j → blkP es (i + 1) j c = blkP es i j c := fun j hj => by rw [blkP_succ he (by omega), if_neg hc]; rfl
  have hil := (List.getElem?_eq_some_iff.mp he).1
  cases h with
  | fin hi h => rw [same _ hi] at h ⊢; exact .fin (by omega) h
  | query hij he' hw hcr h => rw [same _ hij] at h ⊢; exact .query (by omega) he' hw hcr h
  | read hij he' hw hcr h hc' r => rw [same _ hij] at h ⊢; exact .read (by omega) he' hw hcr h hc' r
theorem path_paid {es : List Ent} {i : Nat} {e : Ent} {c : Str} {k a : Int} {p : Path} {bs : List Ent} (he : es[i]? = some e) (hc : c ∈ e.ws) (hp : e.pr = some a) (h : PathOk es (i + 1) c k p bs) : PathOk es i c (k + a) p (e :: bs) := by
  have same : ∀ j, i + 1 ≤ j → blkP es i j c = e :: blkP es (i + 1) j c := fun j hj => by rw [blkP_succ he (by omega), if_pos hc]; rfl
  have sums : ∀ l, sumP (e :: l) = sumP l + a := fun l => by simp only [sumP, hp, Option.getD]; omega
  have prs : ∀ {l}, Priced l → Priced (e :: l) := fun h u hu => by
    rcases List.mem_cons.mp hu with z | z
    · rw [z, hp]; simp
    · exact h u z
  have hil := (List.getElem?_eq_some_iff.mp he).1
  cases h with
  | fin hi h =>
    have := PathOk.fin (es := es) (i := i) (c := c) (by omega) (by rw [same _ hi]; exact prs h)
    rw [same _ hi, sums] at this
    exact this
  | query hij he' hw hcr h =>
    have := PathOk.query (es := es) (i := i) (c := c) (by omega) he' hw hcr (by rw [same _ hij]; exact prs h)
    rw [same _ hij, sums] at this
    exact this
  | @read i' j e' c1 c' k' p' bs' hij he' hw hcr h hc' r =>
    have := PathOk.read (es := es) (i := i) (c := c) (by omega) he' hw hcr (by rw [same _ hij]; exact prs h) hc' r
    rw [same _ hij, sums] at this
    rw [show sumP (blkP es (i + 1) j c) + k' + a = sumP (blkP es (i + 1) j c) + a + k' by omega]
    exact this
theorem path_ok {es : List Ent} : ∀ (m i : Nat), es.length - i = m → i ≤ es.length → ∀ (c : Str) (k : Int) (p : Path), onB (es.drop i) c = some (k, p) → ∃ bs, PathOk es i c k p bs
  | 0, i, hm, hi, c, k, p, h => by
    have e : i = es.length := by omega
    subst e
    rw [List.drop_length] at h
    obtain ⟨rfl, rfl⟩ := Prod.mk.inj (Option.some.inj (show some ((0 : Int), [(("" : Str), c)]) = some (k, p) from h))
    have := PathOk.fin (es := es) (i := es.length) (c := c) (Nat.le_refl _) (by rw [blkP_nil]; exact fun _ h => by cases h)
    rw [blkP_nil] at this
    exact ⟨_, this⟩
  | m + 1, i, hm, hi, c, k, p, h => by
    obtain ⟨e, he⟩ : ∃ e, es[i]? = some e := ⟨_, List.getElem?_eq_getElem (by omega)⟩
    have ih := path_ok (es := es) m (i + 1) (by omega) (by omega)
    rw [on_drop he] at h
    have none_ : Priced (blkP es i i c) := by rw [blkP_nil]; exact fun _ h => by cases h
    rcases on_full h with ⟨hc, ho⟩ | ⟨hc, a, k', hp, ho, rfl⟩ | ⟨hr, hw, rfl, rfl⟩ | ⟨hr, hw, c', hc', p', ho, rfl⟩
    · obtain ⟨bs, r⟩ := ih c k p ho
      exact ⟨bs, path_free he hc r⟩
    · obtain ⟨bs, r⟩ := ih c k' p ho
      exact ⟨e :: bs, path_paid he hc hp r⟩
    · have := PathOk.query (es := es) (Nat.le_refl i) he hw hr none_
      rw [blkP_nil] at this
      exact ⟨_, this⟩
    · obtain ⟨bs, r⟩ := ih c' k p' ho
      have := PathOk.read (es := es) (Nat.le_refl i) he hw hr none_ hc' r
      rw [blkP_nil] at this
      rw [show sumP [] + k = k by simp [sumP]] at this
      exact ⟨_, this⟩
theorem PathOk.sum {es : List Ent} {i : Nat} {c : Str} {k : Int} {p : Path} {bs : List Ent} (h : PathOk es i c k p bs) : sumP bs = k ∧ Priced bs ∧ bs.Sublist (es.drop i) ∧ i ≤ es.length := by
  have sub : ∀ i j c, (blkP es i j c).Sublist (es.drop i) := fun i j c => List.filter_sublist.trans (List.take_sublist _ _)
  induction h with
  | fin hi h => exact ⟨rfl, h, sub _ _ _, hi⟩
  | query hij he hw hc h => exact ⟨rfl, h, sub _ _ _, by have := (List.getElem?_eq_some_iff.mp he).1; omega⟩
  | @read i j e c c' k p bs hij he hw hc h hc' r ih =>
    obtain ⟨h1, h2, h3, _⟩ := ih
    refine ⟨by rw [sumP_app, h1], fun u hu => (List.mem_append.mp hu).elim (h u) (h2 u), ?_, by have := (List.getElem?_eq_some_iff.mp he).1; omega⟩
    have e1 : es.drop i = (es.drop i).take (j - i) ++ es.drop j := by
      conv => lhs; rw [← List.take_append_drop (j - i) (es.drop i)]
      rw [List.drop_drop, show i + (j - i) = j by omega]
    rw [e1]
    exact (List.filter_sublist).append (h3.trans (by rw [drop_cons he]; exact List.sublist_cons_self _ _))
end NV
/-! Msk -/
set_option Elab.async false
set_option linter.all false
set_option maxRecDepth 100000
set_option maxHeartbeats 600000
/-! what reaches a target, as bits; costs and reaching -/
namespace NV
open PySem PySem.Spec PyProof.Rows L2
theorem reach_head {es : List Ent} {q : Ask} {p : Nat} : Reach es q p ↔ ∃ s, lastIx es q.2.2 q.2.1 = some s ∧ (p = s ∨ ∃ e, es[s]? = some e ∧ ∃ r ∈ e.rs, Reach es (e.id, r, s) p) := by
  constructor
  · intro h
    induction h with
    | base h => exact ⟨_, h, .inl rfl⟩
    | @step p j e c _ he hc hl ih =>
      obtain ⟨s, hs, z⟩ := ih
      refine ⟨s, hs, .inr ?_⟩
      rcases z with rfl | ⟨e', he', r, hr, hR⟩
      · exact ⟨e, he, c, hc, .base hl⟩
      · exact ⟨e', he', r, hr, .step hR he hc hl⟩
  · rintro ⟨s, hs, z⟩
    rcases z with rfl | ⟨e, he, r, hr, hR⟩
    · exact .base hs
    · induction hR with
      | base h => exact .step (.base hs) he hr h
      | step _ he' hc' hl' ih => exact .step ih he' hc' hl'
def orAll (f : Str → Nat) : List Str → Nat → Nat
  | [], m => m
  | r :: rs, m => orAll f rs (m ||| f r)
theorem or_bit (f : Str → Nat) (p : Nat) : ∀ (rs : List Str) (m : Nat), (orAll f rs m).testBit p = (m.testBit p || rs.any fun r => (f r).testBit p)
  | [], m => by simp [orAll]
  | r :: rs, m => by
    unfold orAll
    rw [or_bit f p rs, Nat.testBit_or, List.any_cons, Bool.or_assoc]
/-- the writes that reach the cell c ahead of i, as bits -/
def mskAt (es : List Ent) (gone : List Str) : Nat → Str → Nat
  | 0, _ => 0
  | i + 1, c => match es[i]? with
    | some e => if wr (es.map (bl gone)) i c = true then orAll (mskAt es gone i) e.rs 0 ||| 2 ^ i else mskAt es gone i c
    | none => mskAt es gone i c
theorem bl_at {es : List Ent} {gone : List Str} {i : Nat} {e : Ent} (he : es[i]? = some e) : (es.map (bl gone))[i]? = some (bl gone e) := by rw [List.getElem?_map, he]; rfl
theorem bl_live {gone : List Str} {e : Ent} (h : e.id ∉ gone) : bl gone e = e := if_neg h
theorem wr_id {es : List Ent} {gone : List Str} {i : Nat} {e : Ent} {c : Str} (he : es[i]? = some e) (h : wr (es.map (bl gone)) i c = true) : e.id ∉ gone ∧ c ∈ e.ws := by
  unfold wr at h
  rw [bl_at he] at h
  have h : c ∈ (bl gone e).ws := of_decide_eq_true h
  by_cases hg : e.id ∈ gone
  · rw [show bl gone e = .wr e.id [] [] none from if_pos hg] at h
    cases h
  · rw [bl_live hg] at h
    exact ⟨hg, h⟩
theorem wr_of {es : List Ent} {gone : List Str} {i : Nat} {e : Ent} {c : Str} (he : es[i]? = some e) (hg : e.id ∉ gone) (hc : c ∈ e.ws) : wr (es.map (bl gone)) i c = true := by
  unfold wr
  rw [bl_at he, bl_live hg]
  exact decide_eq_true hc
theorem msk_bit (es : List Ent) (gone : List Str) (p : Nat) : ∀ (i : Nat) (z c : Str), (mskAt es gone i c).testBit p = true ↔ Reach (es.map (bl gone)) (z, c, i) p
  | 0, z, c => by
    rw [reach_head]
    constructor
    · intro h
      simp [mskAt] at h
    · rintro ⟨s, hs, _⟩
      cases hs
  | i + 1, z, c => by
    have hsucc : lastIx (es.map (bl gone)) (i + 1) c = if wr (es.map (bl gone)) i c then some i else lastIx (es.map (bl gone)) i c := rfl
    have no : wr (es.map (bl gone)) i c = false → (Reach (es.map (bl gone)) (z, c, i + 1) p ↔ Reach (es.map (bl gone)) (z, c, i) p) := fun h => by
      rw [reach_head, reach_head]
      show (∃ s, lastIx (es.map (bl gone)) (i + 1) c = some s ∧ _) ↔ _
      rw [hsucc, h, if_neg Bool.false_ne_true]
    unfold mskAt
    cases he : es[i]? with
    | none =>
      dsimp only
      rw [msk_bit es gone p i z c]
      refine (no ?_).symm
      unfold wr
      rw [List.getElem?_map, he]
      rfl
    | some e =>
      dsimp only
      cases hw : wr (es.map (bl gone)) i c with
      | false =>
        rw [if_neg Bool.false_ne_true, msk_bit es gone p i z c]
        exact (no hw).symm
      | true =>
        rw [if_pos rfl, Nat.testBit_or, or_bit, Nat.testBit_two_pow, reach_head]
        obtain ⟨hg, hc⟩ := wr_id he hw
        have live := bl_at (gone := gone) he
        rw [bl_live hg] at live
        simp only [Nat.zero_testBit, Bool.false_or, Bool.or_eq_true, decide_eq_true_eq, List.any_eq_true]
        constructor
        · rintro (⟨r, hr, hb⟩ | h)
          · exact ⟨i, by show lastIx _ (i + 1) c = _; rw [hsucc, hw, if_pos rfl], .inr ⟨e, live, r, hr, (msk_bit es gone p i e.id r).mp hb⟩⟩
          · exact ⟨i, by show lastIx _ (i + 1) c = _; rw [hsucc, hw, if_pos rfl], .inl h.symm⟩
        · rintro ⟨s, hs, h⟩
          have hs : lastIx (es.map (bl gone)) (i + 1) c = some s := hs
          rw [hsucc, hw, if_pos rfl] at hs
          obtain rfl := Option.some.inj hs
          rcases h with rfl | ⟨e', he', r, hr, hR⟩
          · exact .inr rfl
          · rw [live] at he'
            obtain rfl := Option.some.inj he'
            exact .inl ⟨r, hr, (msk_bit es gone p i e.id r).mpr hR⟩
/-- what reaches the queries ahead of i -/
def totQ (es : List Ent) (gone : List Str) : Nat → Nat
  | 0 => 0
  | i + 1 => match es[i]? with
    | some e => if e.isW = true then totQ es gone i else totQ es gone i ||| orAll (mskAt es gone i) e.rs 0
    | none => totQ es gone i
theorem tot_bit (es : List Ent) (gone : List Str) (p : Nat) : ∀ i, (totQ es gone i).testBit p = true ↔ ∃ (j : Nat) (e : Ent) (r : Str), j < i ∧ es[j]? = some e ∧ e.isW = false ∧ r ∈ e.rs ∧ Reach (es.map (bl gone)) (e.id, r, j) p
  | 0 => by
    constructor
    · intro h
      simp [totQ] at h
    · rintro ⟨j, _, _, hj, _⟩
      omega
  | i + 1 => by
    have ih := tot_bit es gone p i
    have low : (∃ (j : Nat) (e : Ent) (r : Str), j < i ∧ es[j]? = some e ∧ e.isW = false ∧ r ∈ e.rs ∧ Reach (es.map (bl gone)) (e.id, r, j) p) → ∃ (j : Nat) (e : Ent) (r : Str), j < i + 1 ∧ es[j]? = some e ∧ e.isW = false ∧ r ∈ e.rs ∧ Reach (es.map (bl gone)) (e.id, r, j) p := fun ⟨j, e, r, h, t⟩ => ⟨j, e, r, by omega, t⟩
    unfold totQ
    cases he : es[i]? with
    | none =>
      dsimp only
      rw [ih]
      refine ⟨low, ?_⟩
      rintro ⟨j, e, r, hj, he', t⟩
      by_cases hji : j = i
      · rw [hji, he] at he'; cases he'
      · exact ⟨j, e, r, by omega, he', t⟩
    | some e =>
      dsimp only
      cases hw : e.isW with
      | true =>
        rw [if_pos rfl, ih]
        refine ⟨low, ?_⟩
        rintro ⟨j, e', r, hj, he', hw', t⟩
        by_cases hji : j = i
        · rw [hji, he] at he'
          obtain rfl := Option.some.inj he'
          rw [hw] at hw'; cases hw'
        · exact ⟨j, e', r, by omega, he', hw', t⟩
      | false =>
        rw [if_neg Bool.false_ne_true, Nat.testBit_or, or_bit, Nat.zero_testBit, Bool.false_or, Bool.or_eq_true, ih, List.any_eq_true]
        constructor
        · rintro (h | ⟨r, hr, hb⟩)
          · exact low h
          · exact ⟨i, e, r, by omega, he, hw, hr, (msk_bit es gone p i e.id r).mp hb⟩
        · rintro ⟨j, e', r, hj, he', hw', hr, hR⟩
          by_cases hji : j = i
          · subst hji
            rw [he] at he'
            obtain rfl := Option.some.inj he'
            exact .inr ⟨r, hr, (msk_bit es gone p j e.id r).mpr hR⟩
          · exact .inl ⟨j, e', r, by omega, he', hw', hr, hR⟩
/-! ### what reaches, costs -/
theorem needs_down {es : List Ent} {gone : List Str} {q : Ask} {c : Str} {p : Nat} : ∀ {k : Nat}, k ≤ es.length → lastIx (es.map (bl gone)) k c = some p → Needs es gone q k c → Needs es gone q (p + 1) c
  | k + 1, hk, h, n => by
    have h : (if wr (es.map (bl gone)) k c then some k else lastIx (es.map (bl gone)) k c) = some p := h
    obtain ⟨e, he⟩ : ∃ e, es[k]? = some e := ⟨_, List.getElem?_eq_getElem (by omega)⟩
    cases hw : wr (es.map (bl gone)) k c with
    | true =>
      rw [hw, if_pos rfl] at h
      obtain rfl := Option.some.inj h
      exact n
    | false =>
      rw [hw, if_neg Bool.false_ne_true] at h
      refine needs_down (by omega) h (.pass n he ?_)
      by_cases hg : e.id ∈ gone
      · exact .inr hg
      · refine .inl fun hc => ?_
        rw [wr_of he hg hc] at hw
        cases hw
theorem reach_needs {es : List Ent} {gone : List Str} {q : Ask} (hq : q.2.2 ≤ es.length) {p : Nat} (h : Reach (es.map (bl gone)) q p) : ∃ e, es[p]? = some e ∧ e.id ∉ gone ∧ ∃ c ∈ e.ws, Needs es gone q (p + 1) c := by
  have at_ : ∀ {k : Nat} {c : Str} {p : Nat}, lastIx (es.map (bl gone)) k c = some p → ∃ e, es[p]? = some e ∧ e.id ∉ gone ∧ c ∈ e.ws := fun {k c p} h => by
    obtain ⟨_, hw⟩ := lastIx_lt h
    cases he : es[p]? with
    | none =>
      unfold wr at hw
      rw [List.getElem?_map, he] at hw
      cases hw
    | some e => exact ⟨e, rfl, wr_id he hw⟩
  induction h with
  | base h =>
    obtain ⟨e, he, hg, hc⟩ := at_ h
    exact ⟨e, he, hg, _, hc, needs_down hq h .base⟩
  | @step p j e' c _ he' hc' hl ih =>
    obtain ⟨ej, hej, hgj, c0, hc0, n⟩ := ih
    rw [bl_at hej, bl_live hgj] at he'
    obtain rfl := Option.some.inj he'
    obtain ⟨e, he, hg, hc⟩ := at_ hl
    have hj := (List.getElem?_eq_some_iff.mp hej).1
    exact ⟨e, he, hg, c, hc, needs_down (by omega) hl (.read n hej hc0 hgj hc')⟩
theorem price_le_drop {es : List Ent} {gone : List Str} (ok : ∀ e ∈ es, e.Ok) : ∀ i, priceG gone (es.drop i) ≤ priceG gone es
  | 0 => Int.le_refl _
  | i + 1 => by
    have ih := price_le_drop (gone := gone) ok i
    cases he : es[i]? with
    | none =>
      have h1 : es.drop (i + 1) = [] := List.drop_eq_nil_of_le (by have := List.getElem?_eq_none_iff.mp he; omega)
      rw [h1]
      exact priceG_nn ok
    | some e =>
      rw [price_drop he] at ih
      have h0 : (0 : Int) ≤ (if e.id ∈ gone then e.pr.getD 0 else 0) := by
        by_cases hg : e.id ∈ gone
        · rw [if_pos hg]
          cases hp : e.pr with
          | none => exact Int.le_refl _
          | some a => have := pr_ok (ok e (List.mem_of_getElem? he)) hp; show 0 ≤ a; omega
        · rw [if_neg hg]; exact Int.le_refl _
      omega
theorem goal_le {es : List Ent} {q : Ask} (g : Goal es q) : q.2.2 ≤ es.length := by
  rcases g with h | ⟨e, he, _⟩
  · omega
  · exact Nat.le_of_lt (List.getElem?_eq_some_iff.mp he).1
theorem reach_cost {es : List Ent} {gone : List Str} {q : Ask} (ok : ∀ e ∈ es, e.Ok) (g : Goal es q) (gw : GoneW es gone) {p : Nat} (h : Reach (es.map (bl gone)) q p) : ∃ e, es[p]? = some e ∧ ∃ k, costW (wayFrom (onB (es.drop (p + 1))) e.ws) = some k ∧ k ≤ priceG gone es := by
  obtain ⟨e, he, _, c, hc, n⟩ := reach_needs (goal_le g) h
  obtain ⟨k0, h1, h2⟩ := needs_price ok g gw n
  obtain ⟨k, hk, hle⟩ := fromC_le (o := onB (es.drop (p + 1))) hc k0 h1
  exact ⟨e, he, k, hk, by have := price_le_drop (gone := gone) ok (p + 1); omega⟩
/-! ### and the path reaches -/
theorem mem_blkP {es : List Ent} {i j t : Nat} {u : Ent} {c : Str} (hu : es[t]? = some u) (h1 : i ≤ t) (h2 : t < j) (hc : c ∈ u.ws) : u ∈ blkP es i j c := by
  refine List.mem_filter.mpr ⟨?_, decide_eq_true hc⟩
  refine List.mem_of_getElem? (i := t - i) ?_
  rw [List.getElem?_take_of_lt (by omega), List.getElem?_drop, show i + (t - i) = t by omega]
  exact hu
theorem blkP_mem {es : List Ent} {i j : Nat} {u : Ent} {c : Str} (h : u ∈ blkP es i j c) : ∃ t, i ≤ t ∧ t < j ∧ es[t]? = some u ∧ c ∈ u.ws := by
  obtain ⟨h1, h2⟩ := List.mem_filter.mp h
  obtain ⟨n, hn⟩ := List.getElem?_of_mem h1
  have hlt : n < j - i := by
    have := (List.getElem?_eq_some_iff.mp hn).1
    rw [List.length_take] at this
    omega
  rw [List.getElem?_take_of_lt hlt, List.getElem?_drop] at hn
  exact ⟨i + n, by omega, by omega, hn, of_decide_eq_true h2⟩
theorem at_uniq {es : List Ent} (nd : (es.map Ent.id).Nodup) {a b : Nat} {u v : Ent} (ha : es[a]? = some u) (hb : es[b]? = some v) (h : u.id = v.id) : a = b := by
  have h1 : (es.map Ent.id)[a]? = some u.id := by rw [List.getElem?_map, ha]; rfl
  have h2 : (es.map Ent.id)[b]? = some u.id := by rw [List.getElem?_map, hb, h]; rfl
  obtain ⟨la, ea⟩ := List.getElem?_eq_some_iff.mp h1
  obtain ⟨lb, eb⟩ := List.getElem?_eq_some_iff.mp h2
  exact (List.getElem_inj nd).mp (ea.trans eb.symm)
theorem last_through {es : List Ent} {c : Str} {s : Nat} (hs : wr es s c = true) : ∀ {j : Nat}, s + 1 ≤ j → (∀ t, s < t → t < j → wr es t c = false) → lastIx es j c = some s
  | j + 1, h, hn => by
    show (if wr es j c then some j else lastIx es j c) = some s
    by_cases hj : j = s
    · subst hj
      rw [hs, if_pos rfl]
    · rw [hn j (by omega) (by omega), if_neg Bool.false_ne_true]
      exact last_through hs (by omega) fun t h1 h2 => hn t h1 (by omega)
theorem path_reach {es : List Ent} (nd : (es.map Ent.id).Nodup) {i : Nat} {c : Str} {k : Int} {p : Path} {bs : List Ent} (h : PathOk es i c k p bs) : ∀ gone : List Str, (∀ t u, i ≤ t → es[t]? = some u → (u.id ∈ gone ↔ u ∈ bs)) →
    ∃ q : Ask, Goal es q ∧ p.getLast? = some (q.1, q.2.1) ∧ (q.1 = "" ∧ q.2.2 = es.length ∨ ∃ e, es[q.2.2]? = some e ∧ e.id = q.1) ∧ ∀ s e, s + 1 = i → es[s]? = some e → c ∈ e.ws → e.id ∉ gone → Reach (es.map (bl gone)) q s := by
  have thru : ∀ {gone : List Str} {i j s : Nat} {c : Str} {bs : List Ent} {e : Ent}, (∀ t u, i ≤ t → es[t]? = some u → (u.id ∈ gone ↔ u ∈ bs)) → (∀ u ∈ blkP es i j c, u ∈ bs) → i ≤ j → j ≤ es.length → s + 1 = i → es[s]? = some e → c ∈ e.ws → e.id ∉ gone → lastIx (es.map (bl gone)) j c = some s := by
    intro gone i j s c bs e hg hb hij hj hs he hc hn
    refine last_through (wr_of he hn hc) (by omega) fun t h1 h2 => ?_
    obtain ⟨u, hu⟩ : ∃ u, es[t]? = some u := ⟨_, List.getElem?_eq_getElem (by omega)⟩
    cases hw : wr (es.map (bl gone)) t c with
    | false => rfl
    | true =>
      obtain ⟨h3, h4⟩ := wr_id hu hw
      exact absurd ((hg t u (by omega) hu).mpr (hb u (mem_blkP hu (by omega) h2 h4))) h3
  induction h with
  | @fin i c hi h =>
    intro gone hg
    refine ⟨("", c, es.length), .inl rfl, rfl, .inl ⟨rfl, rfl⟩, fun s e hs he hc hn => .base ?_⟩
    exact thru hg (fun u hu => hu) hi (Nat.le_refl _) hs he hc hn
  | @query i j e c hij he hw hc h =>
    intro gone hg
    have hj := (List.getElem?_eq_some_iff.mp he).1
    refine ⟨(e.id, c, j), .inr ⟨e, he, hw, hc⟩, rfl, .inr ⟨e, he, rfl⟩, fun s e' hs he' hc' hn => .base ?_⟩
    exact thru hg (fun u hu => hu) hij (Nat.le_of_lt hj) hs he' hc' hn
  | @read i j e c c' k p bs hij he hw hcr hp hc' r ih =>
    intro gone hg
    have hj := (List.getElem?_eq_some_iff.mp he).1
    have tail : ∀ t u, j + 1 ≤ t → es[t]? = some u → (u.id ∈ gone ↔ u ∈ bs) := fun t u ht hu => by
      rw [hg t u (by omega) hu, List.mem_append]
      refine ⟨fun z => z.elim (fun y => ?_) id, .inr⟩
      obtain ⟨t', h1, h2, h3, _⟩ := blkP_mem y
      have := at_uniq nd hu h3 rfl
      omega
    have node : e.id ∉ gone := fun z => by
      rcases List.mem_append.mp ((hg j e hij he).mp z) with y | y
      · obtain ⟨t', h1, h2, h3, _⟩ := blkP_mem y
        have := at_uniq nd he h3 rfl
        omega
      · obtain ⟨n, hn⟩ := List.getElem?_of_mem (r.sum.2.2.1.subset y)
        rw [List.getElem?_drop] at hn
        have := at_uniq nd he hn rfl
        omega
    obtain ⟨q, gq, hl, hpos, hR⟩ := ih gone tail
    refine ⟨q, gq, ?_, hpos, fun s e' hs he' hcs hn => ?_⟩
    · rw [List.getLast?_cons, hl]
      rfl
    · have R := hR j e rfl he hc' node
      refine .step R (bl_at he) (by rw [bl_live node]; exact hcr) ?_
      exact thru hg (fun u hu => List.mem_append_left _ hu) hij (by omega) hs he' hcs hn
theorem sum_price_sub : ∀ {es bs : List Ent}, bs.Sublist es → (es.map Ent.id).Nodup → priceG (bs.map Ent.id) es = sumP bs
  | [], bs, h, _ => by
    obtain rfl := List.sublist_nil.mp h
    rfl
  | e :: es, bs, h, nd => by
    rw [List.map_cons, List.nodup_cons] at nd
    cases h with
    | cons _ h =>
      have hn : e.id ∉ bs.map Ent.id := fun z => nd.1 ((h.map Ent.id).subset z)
      unfold priceG
      rw [if_neg hn, sum_price_sub h nd.2]
      omega
    | @cons_cons l _ _ h =>
      have hp : priceG ((e :: l).map Ent.id) es = priceG (l.map Ent.id) es := priceG_congr fun u hu => by
        rw [List.map_cons, List.mem_cons]
        refine ⟨fun z => z.elim (fun y => absurd (List.mem_map.mpr ⟨u, hu, y⟩) nd.1) id, .inr⟩
      unfold priceG
      rw [hp, sum_price_sub h nd.2, if_pos (by simp)]
      rfl
end NV
/-! V1w -/
set_option Elab.async false
set_option linter.all false
set_option maxRecDepth 100000
set_option maxHeartbeats 1000000
/-! the package's cells_written, is_write_at, is_read_at, position_in, asked of what is there -/
namespace NV
open PySem PySem.Spec PyProof.Rows L2
open C8 (pss_cut pe_gc)
abbrev sIsWriteAt : Stmt := topS 30
theorem scIsWriteAt : FnScope ["log", "position"] ["log", "position"] (defScope sIsWriteAt) := ⟨rfl, rfl, rfl, by decide +kernel, rfl, by decide +kernel, by decide +kernel⟩
abbrev sPositionIn : Stmt := topS 33
theorem scPositionIn : FnScope ["log", "entry_id", "position", "entry"] ["log", "entry_id"] (defScope sPositionIn) := ⟨rfl, rfl, rfl, by decide +kernel, rfl, by decide +kernel, by decide +kernel⟩
theorem kind_w (b : Bool) : decide (V.str (if b = true then ("write" : Str) else "query") = V.str "write") = b := by
  cases b with
  | true => exact decide_eq_true rfl
  | false => exact decide_eq_false (by intro h; exact absurd (V.str.inj h) (by decide))
theorem in_names {K : PySem.W.Frag} {H : Hp} {a : Addr} {zs : List Str} {c : Str} {Q : VK} (ha : H a = some (.tup (zs.map V.str))) (q : Q (.bl (decide (c ∈ zs))) H) : rIn K false (.str c) (.ref a) H Q := by
  refine ⟨a, _, rfl, .inr (.inl (.inl ha)), rfl, ?_, ?_⟩
  · rw [List.all_map]
    exact List.all_eq_true.mpr fun x _ => rfl
  · have e : inV (.str c) (zs.map V.str) = decide (c ∈ zs) := by
      unfold inV
      rw [List.any_map, Bool.eq_iff_iff, List.any_eq_true, decide_eq_true_iff]
      constructor
      · rintro ⟨y, hy, h⟩
        have h : (y == c) = true := h
        rw [← eq_of_beq h]
        exact hy
      · intro h
        exact ⟨c, h, by show (c == c) = true; exact beq_self_eq_true c⟩
    rw [if_neg Bool.false_ne_true, e]
    exact q
/-- the write at k, where there is one -/
def writeAt (es : List Ent) (k : Nat) : Bool := match es[k]? with
  | some e => e.isW
  | none => false
def spWriteAt : Sp := fun vs H Q _ => ∃ (v : V) (es : List Ent) (ex : List Addr) (k : Nat), vs = [v, .int (k : Nat)] ∧ Rp ex H (logD es) v ∧ Q (.bl (writeAt es k)) H
/-- the position of this name, the end for none -/
def PosOf (es : List Ent) (z : Str) (k : Nat) : Prop := (z = "" ∧ k = es.length) ∨ (z ≠ "" ∧ (∃ e, es[k]? = some e ∧ e.id = z) ∧ ∀ j e, j < k → es[j]? = some e → e.id ≠ z)
def spPos : Sp := fun vs H Q _ => ∃ (v : V) (es : List Ent) (ex : List Addr) (z : Str) (k : Nat), vs = [v, .str z] ∧ Rp ex H (logD es) v ∧ PosOf es z k ∧ ∀ H', Kp [] H H' → Q (.int (k : Nat)) H'
section
variable {P : Program} {w : World} {K : PySem.W.Frag} {mg : Str → Option Value} {base : Heap}
theorem ok_writeat (DIsWriteAt : Fn K mg "is_write_at" sIsWriteAt ["log", "position"]) (b_len : mg "len" = none) (g0 : ∃ u, mg "KIND" = some u ∧ L2.RelV (.int 0) u) : FnOk P w K mg base CX0 1 DIsWriteAt.f DIsWriteAt.fd ["log", "position"] spWriteAt := by
  refine DIsWriteAt.F.ok scIsWriteAt (fun vs H Q E h => ?_) (fun cdv A outer s H vs Q E hr h => ?_)
  · obtain ⟨v, es, ex, k, rfl, _⟩ := h
    rfl
  obtain ⟨v, es, ex, k, rfl, rv, q⟩ := h
  refine ⟨_, pss_one (ps_ret (pe_and (pe_cmpR op_lt (pv 1) (pe_callB (lenE K) (by rfl) b_len (by decide +kernel) (pa_cons (pv 0) pa_nil)) (nomark _)) (pe_one (pe_cmpR op_eq (pe_ix (ixtE K) (pe_ix (ixtE K) (pv 0) (pv 1) (fun _ _ => rfl)) (pe_gc (v := .int 0) rfl g0) (fun _ _ => rfl)) pe_str (nomark _))))), ?_⟩
  obtain ⟨a, xs, rfl, na, ha, hx⟩ := rv
  have hl : es.length = xs.length := by
    have := hx.length
    rwa [List.length_map] at this
  refine ⟨_, rfl, _, rfl, a, xs, rfl, .inr (.inl (.inl ha)), _, _, rfl, rfl, _, rfl, ?_⟩
  rcases Nat.lt_or_ge k es.length with hk | hk
  · rw [decide_eq_true (show ((k : Nat) : Int) < (xs.length : Nat) by omega)]
    obtain ⟨e, he⟩ : ∃ e, es[k]? = some e := ⟨_, List.getElem?_eq_getElem hk⟩
    obtain ⟨d0, ed0, hd0⟩ := ent_kind e
    refine iteT ⟨_, rfl, _, rfl, ixD (j := k) rfl ha hx (by rw [List.getElem?_map, he]; rfl) fun ve re => c_of (ent_ix re ed0 hd0 rfl fun vk rk => ?_)⟩
    obtain rfl : vk = .str (if e.isW then "write" else "query") := rk
    refine ⟨rfl, ?_⟩
    rw [kind_w]
    have : writeAt es k = e.isW := by unfold writeAt; rw [he]
    rw [← this]
    exact q
  · rw [decide_eq_false (show ¬ ((k : Nat) : Int) < (xs.length : Nat) by omega)]
    have : writeAt es k = false := by unfold writeAt; rw [List.getElem?_eq_none hk]
    rw [this] at q
    exact iteF q
theorem ok_pos (DPositionIn : Fn K mg "position_in" sPositionIn ["log", "entry_id"]) (b_len : mg "len" = none) (b_enumerate : mg "enumerate" = none) (gE : ∃ u, mg "END" = some u ∧ L2.RelV (.str "") u) (g1 : ∃ u, mg "ID" = some u ∧ L2.RelV (.int 1) u) :
    FnOk P w K mg base CX0 1 DPositionIn.f DPositionIn.fd ["log", "entry_id"] spPos := by
  refine DPositionIn.F.ok scPositionIn (fun vs H Q E h => ?_) (fun cdv A outer s H vs Q E hr h => ?_)
  · obtain ⟨v, es, ex, z, k, rfl, _⟩ := h
    rfl
  obtain ⟨v, es, ex, z, k, rfl, rv, pos, q⟩ := h
  refine ⟨_, pss_cons (ps_if (pt_cmpR op_eq (pv 1) (pe_gc (v := .str "") rfl gE) (nomark _))
      (pss_one (ps_ret (pe_callB (lenE K) (by rfl) b_len (by decide +kernel) (pa_cons (pv 0) pa_nil))))
      pss_nil)
      (pss_cons (ps_for PassesOwn.never rfl (pi_enumT K (by rfl) b_enumerate (pa_cons (pv 0) pa_nil)) (pg_tupE K (by rfl) (pgs_cons (pg_name (i := 2) scPositionIn.nd rfl (.inl rfl)) (pgs_cons (pg_name (i := 3) scPositionIn.nd rfl (.inl rfl)) pgs_nil)))
      (pss_one (ps_if (pt_cmpR op_eq (pe_ix (ixtE K) (pv 3) (pe_gc (v := .int 1) rfl g1) (fun _ _ => rfl)) (pv 1) (nomark _))
      (pss_one (ps_ret (pv 2)))
      pss_nil)))
      (pss_one (ps_dead _))), ?_⟩
  obtain ⟨a, xs, rfl, na, ha, hx⟩ := rv
  have hl : es.length = xs.length := by
    have := hx.length
    rwa [List.length_map] at this
  refine ⟨_, rfl, rfl, _, rfl, ?_⟩
  rcases pos with ⟨rfl, rfl⟩ | ⟨hz, ⟨e, he, hid⟩, first⟩
  · refine iteT ⟨_, rfl, a, xs, rfl, .inr (.inl (.inl ha)), ?_⟩
    rw [← hl]
    exact q H Kp.refl
  · rw [decide_eq_false (show ¬ V.str z = V.str "" from fun h => hz (V.str.inj h))]
    have hk := (List.getElem?_eq_some_iff.mp he).1
    refine iteF ⟨_, rfl, a, xs, rfl, .inl (.inl ha), for_enumT (K := K) (a := a) (xs := xs) (fun i σ H' => ∃ c2 c3 : Option V, σ = [some (.ref a), some (.str z), c2, c3] ∧ Kp [] H H' ∧ i ≤ k) ⟨none, none, rfl, Kp.refl, Nat.zero_le _⟩ ?_ ?_ ?_⟩
    · rintro i σ H' ⟨_, _, _, k', _⟩
      exact .inl (.inl (k' _ _ (by simp) ha))
    · rintro i x T σ H1 hxi ⟨c2, c3, rfl, k1, hik⟩ nT
      have kT : Kp [] H1 (upd H1 T (.tup [.int (i : Nat), x])) := Kp.laid nT
      have hT : (upd H1 T (.tup [.int (i : Nat), x])) T = some (.tup [.int (i : Nat), x]) := upd_same
      obtain ⟨e', he'⟩ : ∃ e', es[i]? = some e' := ⟨_, List.getElem?_eq_getElem (by omega)⟩
      obtain ⟨x', hx', rx⟩ := RpAll.at hx (show (es.map Ent.data)[i]? = some e'.data by rw [List.getElem?_map, he']; rfl)
      rw [hxi] at hx'
      obtain rfl := Option.some.inj hx'
      have k2 := k1.trans kT
      have rx2 := Rp.keep (k2.mono (ex' := ex) (by simp)) _ _ rx
      obtain ⟨d1, ed1, hd1, _⟩ := ent_reads e'
      refine ⟨T, _, rfl, .inl (.inl hT), rfl, _, _, rfl, _, _, rfl, rfl, ?_⟩
      refine ⟨_, rfl, c_of (ent_ix rx2 ed1 hd1 rfl fun vi ri => ?_)⟩
      obtain rfl : vi = .str e'.id := ri
      refine ⟨_, rfl, rfl, _, rfl, ?_⟩
      by_cases hi : i = k
      · subst hi
        rw [he] at he'
        obtain rfl := Option.some.inj he'
        rw [decide_eq_true (show V.str e.id = V.str z by rw [hid])]
        exact iteT ⟨_, rfl, q _ k2⟩
      · rw [decide_eq_false (show ¬ V.str e'.id = V.str z from fun h => first i e' (by omega) he' (V.str.inj h))]
        exact iteF ⟨_, _, rfl, k2, by omega⟩
    · rintro σ H1 ⟨c2, c3, rfl, k1, hik⟩
      omega
end
end NV
/-! M2a -/
set_option Elab.async false
set_option linter.all false
set_option maxRecDepth 100000
set_option maxHeartbeats 1000000
/-! logs, cut and joined: what needs no costs -/
namespace NV
open PySem PySem.Spec PyProof.Rows L2
theorem DrAt.live {D : Dr} {n : Nat} {H : Hp} (d : DrAt D n H) : Live D.ex H := fun b hb => by
  obtain ⟨_, large, items, left, turn, h1, h2, _⟩ := d
  rcases List.mem_cons.mp hb with z | z
  · rw [z, h1]; exact fun q => nomatch q
  · rw [List.mem_singleton.mp z, h2]; exact fun q => nomatch q
theorem cut_init (xs : List V) : cutV xs none (some (-1)) = xs.take (xs.length - 1) := by
  unfold cutV
  rw [HT.sIx_none]
  show (xs.drop 0).take (((-1 : Int) + (xs.length : Int)).toNat - 0) = _
  rw [List.drop_zero]
  congr 1
  omega
theorem atI_end {xs : List V} {v : V} (h : xs[xs.length - 1]? = some v) : atI xs (-1) = some v := by
  have hl := (List.getElem?_eq_some_iff.mp h).1
  have e : xs = xs.take (xs.length - 1) ++ [v] := by
    have := List.take_append_drop (xs.length - 1) xs
    rw [List.drop_eq_getElem_cons hl] at this
    rw [(List.getElem?_eq_some_iff.mp h).2] at this
    rw [show xs.length - 1 + 1 = xs.length by omega, List.drop_length] at this
    exact this.symm
  rw [e]
  exact atI_last _ v
theorem ixEnd {K : PySem.W.Frag} {ex : List Addr} {H : Hp} {a : Addr} {xs : List V} {ds : List PyData} {d : PyData} {Q : VK} (ha : H a = some (.tup xs)) (hx : RpAll ex H ds xs) (hj : ds[ds.length - 1]? = some d) (q : ∀ v, Rp ex H d v → Q v H) : rIxT K (.ref a) (.int (-1)) H Q := by
  obtain ⟨v, hv, rv⟩ := RpAll.at hx hj
  rw [hx.length] at hv
  exact ⟨a, xs, -1, v, rfl, rfl, .inl (.inl ha), atI_end hv, q v rv⟩
theorem ne_strs {K : PySem.W.Frag} {H : Hp} {a b : Addr} {zs : List Str} {Q : VK} (ha : SqL K H a (zs.map V.str)) (hb : SqL K H b (zs.map V.str)) (oz : ∀ z ∈ zs, PyData.strOk z = true) (q : Q (.bl false) H) : rNeD K (.ref a) (.ref b) H Q := by
  refine ⟨_, _, .lst ha (dpAll_strs zs), .lst hb (dpAll_strs zs), shaped_strs zs oz, shaped_strs zs oz, ?_⟩
  rw [eqv_strs, decide_eq_true rfl]
  exact q
theorem range_get {α : Type} (l : List α) (d : α) : (List.range l.length).map (fun j => l.getD j d) = l := by
  apply List.ext_getElem
  · simp
  · intro j h1 h2
    simp [List.getD_eq_getElem?_getD, List.getElem?_eq_getElem h2]
theorem range_names (es : List Ent) (d : Ent) : ((List.range es.length).filter (fun j => (es.getD j d).isW)).map (fun j => V.str (es.getD j d).id) = ((es.filter Ent.isW).map Ent.id).map V.str := by
  have e := range_get es d
  have h1 : es.filter Ent.isW = ((List.range es.length).filter (fun j => (es.getD j d).isW)).map (fun j => es.getD j d) := by
    conv => lhs; rw [← e]
    rw [List.filter_map]
    rfl
  rw [h1, List.map_map, List.map_map]
  rfl
theorem LogOk.sub {es es' : List Ent} (h : LogOk es) (s : List.Sublist es' es) : LogOk es' := ⟨fun e he => h.ok e (s.subset he), h.nd.sublist (s.map _)⟩
theorem split_at_ {es : List Ent} {k : Nat} {e : Ent} (h : es[k]? = some e) : es = es.take k ++ e :: es.drop (k + 1) := by
  obtain ⟨hk, he⟩ := List.getElem?_eq_some_iff.mp h
  rw [← he, ← List.drop_eq_getElem_cons hk, List.take_append_drop]
theorem split_last {es : List Ent} {e : Ent} (h : es[es.length - 1]? = some e) : es = es.take (es.length - 1) ++ [e] := by
  have hl := (List.getElem?_eq_some_iff.mp h).1
  have := split_at_ h
  rw [show es.length - 1 + 1 = es.length by omega, List.drop_length] at this
  exact this
theorem idB_ok {z : Str} (h : idB z = true) : PyData.strOk z = true := (word_len h).2
theorem Ent.Ok.idOk {e : Ent} (h : e.Ok) : idB e.id = true := by
  cases e with
  | wr id rs ws pr => exact h.1
  | qu id cs => exact h.1
end NV
/-! Y2a -/
set_option Elab.async false
set_option linter.all false
set_option maxRecDepth 100000
set_option maxHeartbeats 600000
/-! calls by keywords; equal logs -/
namespace NV
open PySem PySem.Spec PyProof.Rows L2
open C8 (pss_cut pe_gc)
/-- a def of the top, called with keywords -/
structure FnK (K : PySem.W.Frag) (mg : Str → Option Value) (nm : Str) (st : Stmt) (ps : List Str) (n : Nat) (ks : List Str) : Type where
  f : Addr
  fd : FuncData
  F : Fun K nm nm st f fd
  m : mg nm = some (.ref f)
  b : KBn K fd ps n ks (· ++ ·) (· ++ ·)
section
variable {K : PySem.W.Frag} {h : Heap} {mg : Str → Option Value} {nm : Str} {st : Stmt}
theorem fnk_at {ps ks : List Str} {n : Nat} (X : K.In h) (G : h.Ns mainGlobals mg) (a : At K nm st)
    (hb : ∀ (kV doc pm : Value) (an : Option Addr) (cdv ct : Value) (us ws : List Value), us.length = n → ws.length = ks.length → bindArgs (PySem.W.fnOf nm nm (defArgs st) (defBody st) (defScope st) .none kV doc pm an cdv ct) ⟨us, ks.zip ws⟩ = pure (ps.zip (us ++ ws))) : Nonempty (FnK K mg nm st ps n ks) := by
  obtain ⟨f, oc, od, kV, doc, pm, an, cd, ct, sl, a1, l1, c1, k1⟩ := a
  have F := fun_mk (st := st) l1 c1 k1
  have hb2 : KBn K _ ps n ks (· ++ ·) (· ++ ·) := ⟨fun s us ws _ h1 h2 => .of_eq (hb kV doc pm an cd ct us ws h1 h2), fun r1 r2 => r1.append r2⟩
  exact ⟨⟨f, _, F, PySem.W.mg_of X G a1, hb2⟩⟩
end
section
variable {X : Cx} {nm : Str} {st : Stmt} {ps ks : List Str} {sp : Sp} {e : Expr} {es : List Expr} {kws : List Keyword} {t tk : TA} {p pos : Pos} {j k n : Nat}
theorem pe_fk (D : FnK X.K X.mg nm st ps n ks) (G : FnOk X.prog X.w X.K X.mg X.base CX0 j D.f D.fd ps sp) (hr : Room k X.A) (ha : PA X (e :: es) t) (hkw : PK X kws tk)
    (hk : j ≤ k := by decide) (hg : Gl X nm := by rfl) (hall : ((backToKw pos (keywordEach kws X.env)).all (·.1.isSome)) = true := by rfl) (hks : (backToKw pos (keywordEach kws X.env)).filterMap (·.1) = ks := by rfl) (hdb : (nm == ("__debug__" : Str)) = false := by decide)
    (he : starEach (e :: es) X.env = (false, eval e X.env) :: starEach es X.env := by rfl) (hpl : (((backTo pos (starEach (e :: es) X.env)).any (·.1)) || ((backToKw pos (keywordEach kws X.env)).any (·.1.isNone))) = false := by rfl) :
    PE X (.Call (.Name nm p) (e :: es) kws pos) (tCallN n ks.length sp (· ++ ·) (fun _ _ _ => False) t tk) := pe_callN G (hr.mono hk) hg D.m D.F.kp D.b pass0 ha hkw hall hks hdb he hpl
end
/-! ### equal logs -/
mutual
theorem Rp.dp {K : PySem.W.Frag} {ex : List Addr} {H : Hp} : ∀ (d : PyData) (v : V), niceD d = true → d.canLay0 = true → Rp ex H d v → Dp K H v d
  | .none, _, _, _, h => by obtain rfl : _ = V.non := h; exact .non
  | .bool b, _, _, _, h => by obtain rfl : _ = V.bl b := h; exact .bl b
  | .int i, _, _, _, h => by obtain rfl : _ = V.int i := h; exact .int i
  | .str z, _, _, _, h => by obtain rfl : _ = V.str z := h; exact .str z
  | .list ds, v, n, c, h => by
    obtain ⟨a, xs, rfl, _, ha, hx⟩ := h
    exact .lst (.inl (.inl ha)) (RpAll.dp ds xs (by simpa only [niceD] using n) (by simpa only [PyData.canLay0] using c) hx)
  | .tuple ds, v, n, c, h => by
    obtain ⟨a, xs, rfl, _, ha, hx⟩ := h
    exact .tup (.inl (.inl ha)) (RpAll.dp ds xs (by simpa only [niceD] using n) (by simpa only [PyData.canLay0] using c) hx)
  | .dict kvs, v, _, c, h => by simp only [PyData.canLay0] at c; cases c
theorem RpAll.dp {K : PySem.W.Frag} {ex : List Addr} {H : Hp} : ∀ (ds : List PyData) (vs : List V), niceAll ds = true → PyData.canLayAll0 ds = true → RpAll ex H ds vs → DpAll K H vs ds
  | [], vs, _, _, h => by obtain rfl : vs = [] := h; exact .nil
  | d :: ds, vs, n, c, h => by
    obtain ⟨v, ws, rfl, h1, h2⟩ := h
    simp only [niceAll, Bool.and_eq_true] at n
    simp only [PyData.canLayAll0, Bool.and_eq_true] at c
    exact .cons (Rp.dp d v n.1 c.1 h1) (RpAll.dp ds ws n.2 c.2 h2)
end
theorem lay_names : ∀ zs : List Str, (∀ z ∈ zs, PyData.strOk z = true) → PyData.canLayAll0 (zs.map PyData.str) = true
  | [], _ => rfl
  | z :: zs, h => by
    rw [List.map_cons]
    simp only [PyData.canLayAll0, PyData.canLay0, Bool.and_eq_true]
    exact ⟨h z List.mem_cons_self, lay_names zs fun y hy => h y (List.mem_cons_of_mem _ hy)⟩
theorem lay_cells {l : Nat} {cs : List Str} (h : CellsOk l cs) : PyData.canLayAll0 (cs.map PyData.str) = true := lay_names cs fun z hz => (word_len (h.ok z hz)).2
theorem lay_ent {e : Ent} (h : e.Ok) : e.data.canLay0 = true := by
  have wr : PyData.strOk "write" = true := by decide +kernel
  have qu : PyData.strOk "query" = true := by decide +kernel
  cases e with
  | wr id rs ws pr =>
    obtain ⟨h1, h2, h3, _⟩ := h
    unfold Ent.data
    simp only [PyData.canLay0, PyData.canLayAll0, Bool.and_eq_true]
    refine ⟨wr, idB_ok h1, lay_cells h2, lay_cells h3, ?_, trivial⟩
    cases pr <;> rfl
  | qu id cs =>
    obtain ⟨h1, h2⟩ := h
    unfold Ent.data
    simp only [PyData.canLay0, PyData.canLayAll0, Bool.and_eq_true]
    exact ⟨qu, idB_ok h1, lay_cells h2, trivial⟩
theorem lay_log : ∀ {es : List Ent}, (∀ e ∈ es, e.Ok) → PyData.canLayAll0 (es.map Ent.data) = true
  | [], _ => rfl
  | e :: es, h => by
    rw [List.map_cons]
    simp only [PyData.canLayAll0, Bool.and_eq_true]
    exact ⟨lay_ent (h e List.mem_cons_self), lay_log fun u hu => h u (List.mem_cons_of_mem _ hu)⟩
theorem lay_logD {es : List Ent} (h : ∀ e ∈ es, e.Ok) : (logD es).canLay0 = true := by
  unfold logD
  simp only [PyData.canLay0]
  exact lay_log h
theorem shaped_log {es : List Ent} (h : ∀ e ∈ es, e.Ok) : SeqAt.shaped (logD es) = true := by
  have := (log_nice h).2.1
  unfold SeqAt.shaped
  rw [lay_logD h]
  exact decide_eq_true (by show PyData.depth (.tuple (es.map Ent.data)) ≤ 64; omega)
theorem eq_logs {K : PySem.W.Frag} {ex ex' : List Addr} {H : Hp} {v u : V} {es : List Ent} {Q : VK} (ok : ∀ e ∈ es, e.Ok) (hv : Rp ex H (logD es) v) (hu : Rp ex' H (logD es) u) (q : Q (.bl true) H) : rEqD K v u H Q := by
  refine ⟨_, _, Rp.dp _ _ (log_nice ok).1 (lay_logD ok) hv, Rp.dp _ _ (log_nice ok).1 (lay_logD ok) hu, shaped_log ok, shaped_log ok, ?_⟩
  have e := SeqAt.eqv_refl _ (lay_logD ok)
  unfold logD at e
  rw [e]
  exact q
theorem ne_logs {K : PySem.W.Frag} {ex ex' : List Addr} {H : Hp} {v u : V} {es : List Ent} {Q : VK} (ok : ∀ e ∈ es, e.Ok) (hv : Rp ex H (logD es) v) (hu : Rp ex' H (logD es) u) (q : Q (.bl false) H) : rNeD K v u H Q := by
  refine ⟨_, _, Rp.dp _ _ (log_nice ok).1 (lay_logD ok) hv, Rp.dp _ _ (log_nice ok).1 (lay_logD ok) hu, shaped_log ok, shaped_log ok, ?_⟩
  have e := SeqAt.eqv_refl _ (lay_logD ok)
  unfold logD at e
  rw [e]
  exact q
end NV
/-! Z0 -/
set_option Elab.async false
set_option linter.all false
set_option maxRecDepth 100000
set_option maxHeartbeats 1000000
/-! defs that raise, and their calls; the package's check_log for any data -/
namespace NV
open PySem PySem.Spec PyProof.Rows L2
open C8 (pss_cut pe_gc)
theorem small100 {n : Nat} (h : n ≤ 100) : n ≤ sizeLine := Nat.le_trans h (by decide)
/-- a class of errors over ValueError, made without an __init__ of its own -/
structure Err (K : PySem.W.Frag) (mg : Str → Option Value) (nm : Str) : Type where
  C : Addr
  g : mg nm = some (.ref C)
  x : PySem.W.excIn K C [.type "ValueError", .type "Exception", .type "BaseException", .type "object"] "ValueError.__new__" = true
  k : PySem.W.keepIn K (.ref C) = true
  b : PySem.W.subIn K (.ref C) (.type "BaseException") = some true
  t : PySem.W.typeIn K (.ref C) = some (.type "type")
section
variable {X : Cx} {nm : Str} {e : Expr} {te : TE} {p pos : Pos}
theorem pmk_err (D : Err X.K X.mg nm) (he : PE X e te) (hg : Gl X nm := by rfl) (hs : starEach [e] X.env = (false, eval e X.env) :: starEach [] X.env := by rfl) (hdb : (nm == ("__debug__" : Str)) = false := by decide) :
    PMk X (.Call (.Name nm p) [e] [] pos) (fun σ H Q => te σ H fun _ H1 => Q (.ref D.C) none H1) := SkE.pmk_own1 PySem.F.excBase_ValueError D.x D.g D.k (raises_own D.b D.t) hg he hs hdb
end
section
variable {X : Cx} {E : XK}
/-- what the def raises, what it calls raises too -/
theorem pass_all (tk : Takes X fun cls d _ H => E cls d H) : Passes (L2.CX X.prog X.w) X E := fun pins σ H s e s' I c => passAt tk σ pins H s e s' I c
theorem pe_fx {nm : Str} {st : Stmt} {ps : List Str} {sp : Sp} {e : Expr} {es : List Expr} {t : TA} {p pos : Pos} {j k : Nat} (D : Fn X.K X.mg nm st ps) (G : FnOk X.prog X.w X.K X.mg X.base (L2.CX X.prog X.w) j D.f D.fd ps sp) (hr : Room k X.A) (tk : Takes X fun cls d _ H => E cls d H) (ha : PA X (e :: es) t)
    (hk : j ≤ k := by decide) (hg : Gl X nm := by rfl) (hdb : (nm == ("__debug__" : Str)) = false := by decide) (he : starEach (e :: es) X.env = (false, eval e X.env) :: starEach es X.env := by rfl) (hpl : (backTo pos (starEach es X.env)).any (·.1) = false := by rfl) :
    PE X (.Call (.Name nm p) (e :: es) [] pos) (tCall sp [] E t) := pe_call G (hr.mono hk) hg D.m D.F.kp D.b .nil (pass_all tk) ha hdb he hpl
theorem pe_fkx {nm : Str} {st : Stmt} {ps ks : List Str} {sp : Sp} {e : Expr} {es : List Expr} {kws : List Keyword} {t tk : TA} {p pos : Pos} {j k n : Nat} (D : FnK X.K X.mg nm st ps n ks) (G : FnOk X.prog X.w X.K X.mg X.base (L2.CX X.prog X.w) j D.f D.fd ps sp) (hr : Room k X.A) (tk' : Takes X fun cls d _ H => E cls d H) (ha : PA X (e :: es) t) (hkw : PK X kws tk)
    (hk : j ≤ k := by decide) (hg : Gl X nm := by rfl) (hall : ((backToKw pos (keywordEach kws X.env)).all (·.1.isSome)) = true := by rfl) (hks : (backToKw pos (keywordEach kws X.env)).filterMap (·.1) = ks := by rfl) (hdb : (nm == ("__debug__" : Str)) = false := by decide)
    (he : starEach (e :: es) X.env = (false, eval e X.env) :: starEach es X.env := by rfl) (hpl : (((backTo pos (starEach (e :: es) X.env)).any (·.1)) || ((backToKw pos (keywordEach kws X.env)).any (·.1.isNone))) = false := by rfl) :
    PE X (.Call (.Name nm p) (e :: es) kws pos) (tCallN n ks.length sp (· ++ ·) E t tk) := pe_callN G (hr.mono hk) hg D.m D.F.kp D.b (pass_all tk') ha hkw hall hks hdb he hpl
end
/-- nothing, or an error of the class C -/
def spMay (f : PyData → Bool) (C : Addr) : Sp := fun vs H Q E => ∃ (v : V) (d : PyData) (ex : List Addr), vs = [v] ∧ Rp ex H d v ∧ niceD d = true ∧ (f d = true → ∀ H', Kp [] H H' → Q .non H') ∧ (f d = false → ∀ H', Kp [] H H' → E (.ref C) none H')
section
variable {P : Program} {w : World} {K : PySem.W.Frag} {mg : Str → Option Value} {base : Heap}
theorem ok_checklogX (DCheckLog : Fn K mg "check_log" sCheckLog ["log"]) (DIsLog : Fn K mg "is_log" sIsLog ["value"]) (XL : Err K mg "InvalidLog") (g1 : ∃ u, mg "MOST_ENTRIES" = some u ∧ L2.RelV (.int 60) u)
    (GIsLog : FnOk P w K mg base CX0 6 DIsLog.f DIsLog.fd ["value"] (spAskD logD')) : FnOk P w K mg base (L2.CX P w) 7 DCheckLog.f DCheckLog.fd ["log"] (spMay logD' XL.C) := by
  refine DCheckLog.F.okX scCheckLog (fun vs H Q E h => ?_) (fun cdv A outer s H vs Q E hr h => ?_)
  · obtain ⟨v, d, ex, rfl, _⟩ := h
    rfl
  obtain ⟨v, d, ex, rfl, rv, nd, yes, no⟩ := h
  refine ⟨_, pss_one (ps_if (pt_not (pt_val (pe_fn DIsLog GIsLog hr (pa_cons (pv 0) pa_nil))))
      (pss_one (ps_raise rfl (takes_of rfl rfl rfl rfl) (pmk_err XL (pe_joined (.cons pe_str (.cons (pe_fmt (pe_gc (v := .int 60) rfl g1)) (.cons pe_str .nil)))))))
      pss_nil), ?_⟩
  refine ⟨_, rfl, v, d, ex, rfl, rv, nd, fun H' k => ⟨_, rfl, ?_⟩⟩
  cases hd : logD' d with
  | true => exact iteF (yes hd H' k)
  | false =>
    refine iteT ⟨_, rfl, ?_, .inr ⟨60, rfl, ?_, _, rfl, ?_, _, rfl, ?_, no hd H' k⟩⟩
    · exact small100 (by decide +kernel)
    · decide +kernel
    · exact small100 (by decide +kernel)
    · exact small100 (by decide +kernel)
end
end NV
/-! OwnE -/
set_option Elab.async false
set_option linter.all false
set_option maxRecDepth 100000
set_option maxHeartbeats 600000
/-! raising an error of the package with an __init__ of its own that keeps one value -/
namespace NV
open PySem PySem.Spec PyProof.Rows L2
open C8 (pss_cut pe_gc)
def iniS (c : Stmt) : Stmt := match c with
  | .ClassDef _ _ _ b _ _ _ _ _ _ _ => b.getD 0 (.Pass ⟨0, 0, 0, 0⟩)
  | s => s
/-- a class nm whose __init__ keeps its one argument as f -/
structure ErrI (K : PySem.W.Frag) (mg : Str → Option Value) (nm f : Str) (cs : Stmt) : Type where
  C : Addr
  fI : Addr
  fd : FuncData
  F : Fun K "__init__" (nm ++ ".__init__") (iniS cs) fI fd
  b : Binds K fd ["self", f] []
  g : mg nm = some (.ref C)
  T : OexC K C
  iC : PySem.W.findIn K (.ref C) "__init__" = some (some (.ref fI))
  tI : PySem.W.typeIn K (.ref fI) = some (.type "function")
  no : PySem.W.findIn K (.ref C) f = some none
def spInit (C : Addr) (f : Str) : Sp := fun vs H Q _ => ∃ (a : Addr) (v : V), vs = [.ref a, v] ∧ H a = some (exo a C none) ∧ ∀ dx, H dx = none → dx ≠ a → Q .non (upd (upd H dx (exd dx [(f, v)])) a (exo a C (some dx)))
abbrev sUnknownid : Stmt := topS 3
theorem scUnknownid : FnScope ["self", "entry_id"] ["self", "entry_id"] (defScope (iniS sUnknownid)) := ⟨rfl, rfl, rfl, by decide +kernel, rfl, by decide +kernel, by decide +kernel⟩
section
variable {P : Program} {w : World} {K : PySem.W.Frag} {mg : Str → Option Value} {base : Heap}
theorem ok_initUnknownid (D : ErrI K mg "UnknownId" "entry_id" sUnknownid) : FnOk P w K mg base CX0 1 D.fI D.fd ["self", "entry_id"] (spInit D.C "entry_id") := by
  refine D.F.ok scUnknownid (fun vs H Q E h => ?_) (fun cdv A outer s H vs Q E hr h => ?_)
  · obtain ⟨a, v, rfl, _⟩ := h
    rfl
  obtain ⟨a, v, rfl, ha, q⟩ := h
  refine ⟨_, pss_one (ps_ost (pv 0) (pv 1)), ?_⟩
  exact ⟨_, rfl, _, rfl, a, D.C, rfl, D.T, D.no, .inl ⟨ha, fun dx n ne => q dx n ne⟩⟩
end
theorem pe_mono' {X : Cx} {e : Expr} {te : TE} (h : PE X e te) : PE X e (fun σ H Q => ∃ Q0 : VK, (∀ v H', Q0 v H' → Q v H') ∧ te σ H Q0) :=
  ⟨fun pins s σ H Q I ⟨Q0, m, h0⟩ => thn (h.run pins s σ H Q0 I h0) fun u s' ⟨v, H', I', r, q⟩ => ⟨v, H', I', r, m v H' q⟩⟩
section
variable {X : Cx} {nm f : Str} {C fI : Addr} {fd : FuncData} {e : Expr} {te : TE} {p pos : Pos} {k : Nat}
/-- nm(e), to be raised -/
theorem pmk_erri (G : FnOk X.prog X.w X.K X.mg X.base CX0 1 fI fd ["self", f] (spInit C f)) (b : Binds X.K fd ["self", f] []) (g : X.mg nm = some (.ref C)) (T : OexC X.K C) (iC : PySem.W.findIn X.K (.ref C) "__init__" = some (some (.ref fI))) (tI : PySem.W.typeIn X.K (.ref fI) = some (.type "function")) (hr : Room k X.A) (he : PE X e te) (hk : 2 ≤ k := by decide) (hg : Gl X nm := by rfl) (hs : starEach [e] X.env = (false, eval e X.env) :: starEach [] X.env := by rfl) (hdb : (nm == ("__debug__" : Str)) = false := by decide) :
    PMk X (.Call (.Name nm p) [e] [] pos) (fun σ H Q => te σ H fun v H1 => ∀ d H', Kp [] H1 H' → H' d = some (.xd [(f, v)]) → Q (.ref C) (some d) H') := by
  have M := pmk_oex (X := X) (CX := CX0) (x := nm) (C := C) (fI := fI) (k := 1) (fd := fd) (ps := ["self", f]) (sp := spInit C f) (ds := []) (dvs := []) (p := p) (pos := pos) T iC tI G (hr.mono hk) b .nil pass0 hg g (pa_cons (pe_mono' he) pa_nil hs) hdb hs rfl
  intro pins s σ H Q I h
  refine M pins s σ H Q I ?_
  refine ⟨fun v H1 => ∀ d H', Kp [] H1 H' → H' d = some (.xd [(f, v)]) → Q (.ref C) (some d) H', fun v H1 q => ⟨by show 1 ≤ 1000; decide, fun a na => ?_⟩, h⟩
  refine ⟨a, v, rfl, upd_same, fun dx nd ne => ⟨rfl, dx, [(f, v)], upd_same, by rw [upd_ne ne, upd_same], by rw [upd_ne ne] at nd; exact nd, q dx _ (fun b o _ hb => ?_) upd_same⟩⟩
  have nda : H1 dx = none := by rw [upd_ne ne] at nd; exact nd
  have h1 : b ≠ a := fun z => by rw [z, na] at hb; cases hb
  have h2 : b ≠ dx := fun z => by rw [z, nda] at hb; cases hb
  rw [upd_ne h2, del_ne h1, upd_ne h1, upd_ne h2, upd_ne h1]
  exact hb
end
end NV
/-! StrD -/
set_option Elab.async false
set_option linter.all false
set_option maxRecDepth 100000
set_option maxHeartbeats 1000000
/-! a text beside data of any kind: ==, in a tuple or a list of texts -/
namespace NV
open PySem PySem.Spec PyProof.Rows L2
theorem eq_text_dict {A : Around} {s : Shared} {l : Addr} {o : Obj} {es : Array DictEntry} {n : Nat} (b : Str) (u : Tok) (ho : s.heap.get? l = some o) (hc : o.cls = .type "dict") (hd : o.data = .dict es n) (hu : A.units < cLine) : SeqAt.RcAt A s (.str b u) (.ref l) false := fun prog w E Q h => by
  obtain ⟨cls, dd, data, sl⟩ := o
  simp only at hc hd
  subst hc hd
  refine SeqAt.rc_eq_decline_or (k := false) (Ta := "str") (Tb := "dict") (typeIs_str s b u) ⟨_, ho, rfl⟩ (by decide) F.sub_dict_str F.slot_str_eq F.slot_dict_eq_refl (fun _ hq => ?_) (fun _ hq => ?_) (fun _ hq => wpAny_of_eq (rfl : isSame (.str b u) (.ref l) = pure false) hq) (.inr hu) h
  · exact call_meets F.slot_str_eq (typeIs_str s b u) F.entry_str_eq (F.args_str_eq_2 _ _) (str_eq_no b u l es n dd sl) ⟨ho, hq⟩
  · exact call_meets F.slot_dict_eq_refl ⟨_, ho, rfl⟩ F.entry_dict_eq (F.args_dict_eq_2 _ _) (dict_eq_no l es n dd sl b u) ⟨ho, hq⟩
theorem eqb_text_dict {A : Around} {s : Shared} {l : Addr} {o : Obj} {es : Array DictEntry} {n : Nat} (b : Str) (u : Tok) (ho : s.heap.get? l = some o) (hc : o.cls = .type "dict") (hd : o.data = .dict es n) (hu : A.units < cLine) : SeqAt.EqAt A s (.str b u) (.ref l) false := fun prog w E Q h => by
  unfold eqBool
  refine wpAny_holding ?_
  refine wpAny_ite_split (fun hab => absurd (eq_of_beq hab) nofun) (fun _ => ?_)
  exact wpAny_bind (eq_text_dict b u ho hc hd hu prog w E _ (wpAny_truthy_bool h))
section
variable {X : Cx} {pins : List (Addr × Obj)} {σ : L2.St} {H : Hp} {s : Shared} {ex : List Addr}
theorem eq_strD {A : Around} (I : Inv X pins σ H s) (z : Str) (t : Tok) (hu : A.units < cLine) : ∀ (d : PyData) (x : V) (u : Value), Rp ex H d x → RelV x u → SeqAt.EqAt A s (.str z t) u (strD z d) ∧ SeqAt.RcAt A s (.str z t) u (strD z d) := by
  intro d x u hd rx
  match d, hd with
  | .none, hd =>
    obtain rfl : x = .non := hd
    obtain rfl : u = Value.none := rx
    exact ⟨SeqAt.EqAt.str_none z t, SeqAt.RcAt.str_none z t⟩
  | .bool b, hd =>
    obtain rfl : x = .bl b := hd
    obtain rfl : u = Value.bool b := rx
    exact ⟨SeqAt.EqAt.str_bool z t b, SeqAt.RcAt.str_bool z t b⟩
  | .int i, hd =>
    obtain rfl : x = .int i := hd
    obtain ⟨t', rfl⟩ := rx
    exact ⟨SeqAt.EqAt.str_int z t i t', SeqAt.RcAt.str_int z t i t'⟩
  | .str y, hd =>
    obtain rfl : x = .str y := hd
    obtain ⟨t', rfl⟩ := rx
    have e : strD z (.str y) = (z == y) := by
      show decide (y = z) = (z == y)
      by_cases h : y = z
      · subst h; simp
      · rw [decide_eq_false h]
        exact (beq_eq_false_iff_ne.mpr fun q => h q.symm).symm
    rw [e]
    exact ⟨SeqAt.EqAt.str_str z t y t', SeqAt.RcAt.str_str z t y t'⟩
  | .list ds, hd =>
    obtain ⟨a, xs, rfl, _, ha, _⟩ := hd
    obtain rfl : u = Value.ref a := rx
    obtain ⟨its, rv, pl, _⟩ := I.list (.inl (.inl ha))
    exact ⟨SeqAt.EqAt.str_list z t pl.isList hu, SeqAt.RcAt.str_list z t pl.isList hu⟩
  | .tuple ds, hd =>
    obtain ⟨a, xs, rfl, _, ha, _⟩ := hd
    obtain rfl : u = Value.ref a := rx
    obtain ⟨its, rv, pl, _⟩ := I.tuple (.inl (.inl ha))
    exact ⟨SeqAt.EqAt.str_tuple z t pl hu, SeqAt.RcAt.str_tuple z t pl hu⟩
  | .dict kvs, hd =>
    obtain ⟨rfl, a, rfl, _, ha⟩ := hd
    obtain rfl : u = Value.ref a := rx
    obtain ⟨_, o, es, ep, ho, hc, hdt, _⟩ := no_entries I.hok ha
    exact ⟨eqb_text_dict z t ho hc hdt hu, eq_text_dict z t ho hc hdt hu⟩
end
/-- text == data -/
def rEqSD : R2 := fun x y H Q => ∃ (d : PyData) (ex : List Addr) (z : Str), x = .str z ∧ Rp ex H d y ∧ Q (.bl (strD z d)) H
theorem op_eqSD {X : Cx} (hu : X.A.units + 64 < cLine) : OpR X (compareOp .Eq) rEqSD := by
  intro pins s σ H x y v u Q I rx ry h
  obtain ⟨d, ex, z, rfl, hd, q⟩ := h
  obtain ⟨t, rfl⟩ := rx
  exact (eq_strD I z t (by omega) d y u hd ry).2 _ _ _ _ ⟨.bl _, H, I, rfl, q⟩
/-- data in a tuple, in a list of texts -/
def rInSD (K : PySem.W.Frag) (neg : Bool) : R2 := fun x y H Q => ∃ (d : PyData) (ex : List Addr) (zs : List Str) (p : Addr), Rp ex H d x ∧ y = .ref p ∧ (SqL K H p (zs.map V.str) ∨ SqT K H p (zs.map V.str)) ∧ Q (.bl (if neg then !zs.any (fun z => strD z d) else zs.any fun z => strD z d)) H
/-- what is asked of the value of a text -/
def askU (d : PyData) (u : Value) : Bool := match u with
  | .str z _ => strD z d
  | _ => false
theorem any_ask (d : PyData) : ∀ {zs : List Str} {us : List Value}, Vals (zs.map V.str) us → us.any (askU d) = zs.any fun z => strD z d
  | [], _, .nil => rfl
  | z :: zs, _, .cons r t => by
    obtain ⟨t', rfl⟩ := r
    rw [List.any_cons, List.any_cons, any_ask d t]
    rfl
theorem mem_ask {X : Cx} {pins : List (Addr × Obj)} {σ : L2.St} {H : Hp} {s : Shared} {ex : List Addr} {A : Around} (I : Inv X pins σ H s) (hu : A.units < cLine) {d : PyData} {x : V} {v : Value} (hd : Rp ex H d x) (rx : RelV x v) : ∀ {zs : List Str} {us : List Value}, Vals (zs.map V.str) us → ∀ u ∈ us, SeqAt.EqAt A s u v (askU d u)
  | [], _, .nil => fun u hu' => by cases hu'
  | z :: zs, _, .cons r t => fun u hu' => by
    rcases List.mem_cons.mp hu' with e | e
    · obtain ⟨t', e2⟩ := r
      rw [e, e2]
      exact (eq_strD I z t' hu d x v hd rx).1
    · exact mem_ask I hu hd rx t u e
theorem in1_units {A : Around} : A.in1.units = A.units + 1 := rfl
theorem op_inSD {X : Cx} (K : PySem.W.Frag) (hu : X.A.units + 64 < cLine) (hK : X.K = K := by rfl) : OpR X (compareOp .In) (rInSD K false) := by
  rw [← hK]
  intro pins s σ H x y v u Q I rx ry h
  obtain ⟨d, ex, zs, p, hd, rfl, hq, q⟩ := h
  cases ry
  have hu1 : X.A.in1.units < cLine := by rw [in1_units]; omega
  rcases hq with hq | hq
  · obtain ⟨its, r, pl, hz⟩ := I.list hq
    refine SeqAt.in_listAt (askU d) pl.isList (fun w hw => mem_ask I hu1 hd rx r w (by simpa using hw)) ⟨.bl _, H, I, rfl, ?_⟩
    rw [show its.toArray.any (askU d) = its.any (askU d) by simp, any_ask d r]
    exact q
  · obtain ⟨its, r, pl, hz⟩ := I.tuple hq
    refine SeqAt.in_tupleAt (askU d) pl (fun w hw => mem_ask I hu1 hd rx r w (by simpa using hw)) ⟨.bl _, H, I, rfl, ?_⟩
    rw [show its.toArray.any (askU d) = its.any (askU d) by simp, any_ask d r]
    exact q
theorem op_notInSD {X : Cx} (K : PySem.W.Frag) (hu : X.A.units + 64 < cLine) (hK : X.K = K := by rfl) : OpR X (compareOp .NotIn) (rInSD K true) := by
  rw [← hK]
  intro pins s σ H x y v u Q I rx ry h
  obtain ⟨d, ex, zs, p, hd, rfl, hq, q⟩ := h
  cases ry
  have hu1 : X.A.in1.units < cLine := by rw [in1_units]; omega
  rcases hq with hq | hq
  · obtain ⟨its, r, pl, hz⟩ := I.list hq
    refine SeqAt.notIn_listAt (askU d) pl.isList (fun w hw => mem_ask I hu1 hd rx r w (by simpa using hw)) ⟨.bl _, H, I, rfl, ?_⟩
    rw [show its.toArray.any (askU d) = its.any (askU d) by simp, any_ask d r]
    exact q
  · obtain ⟨its, r, pl, hz⟩ := I.tuple hq
    refine SeqAt.notIn_tupleAt (askU d) pl (fun w hw => mem_ask I hu1 hd rx r w (by simpa using hw)) ⟨.bl _, H, I, rfl, ?_⟩
    rw [show its.toArray.any (askU d) = its.any (askU d) by simp, any_ask d r]
    exact q
end NV
/-! PosX -/
set_option Elab.async false
set_option linter.all false
set_option maxRecDepth 100000
set_option maxHeartbeats 1000000
/-! the package's position_in, position_of_write, asked of anything -/
namespace NV
open PySem PySem.Spec PyProof.Rows L2
open C8 (pss_cut pe_gc)
/-! ### where an id stands -/
def posG (z : Str) : List Ent → Nat → Option Nat
  | [], _ => none
  | e :: l, k => if e.id = z then some k else posG z l (k + 1)
def posS (es : List Ent) (z : Str) : Option Nat := if z = "" then some es.length else posG z es 0
def posD (es : List Ent) : PyData → Option Nat
  | .str z => posS es z
  | _ => none
theorem posG_at {z : Str} : ∀ {es : List Ent} {i k : Nat} {e : Ent}, es[i]? = some e → e.id = z → (∀ j e', j < i → es[j]? = some e' → e'.id ≠ z) → posG z es k = some (k + i)
  | [], i, k, e, h, _, _ => by simp at h
  | u :: l, 0, k, e, h, he, _ => by
    obtain rfl : u = e := by simpa using h
    unfold posG
    rw [if_pos he]
    rfl
  | u :: l, i + 1, k, e, h, he, no => by
    have hu : u.id ≠ z := no 0 u (by omega) (by simp)
    unfold posG
    rw [if_neg hu, posG_at (es := l) (i := i) (k := k + 1) (e := e) (by simpa using h) he fun j e' hj h' => no (j + 1) e' (by omega) (by simpa using h')]
    congr 1
    omega
theorem posG_no {z : Str} : ∀ {es : List Ent} {k : Nat}, (∀ e ∈ es, e.id ≠ z) → posG z es k = none
  | [], _, _ => rfl
  | u :: l, k, h => by
    unfold posG
    rw [if_neg (h u List.mem_cons_self)]
    exact posG_no fun e he => h e (List.mem_cons_of_mem _ he)
theorem posG_is {z : Str} : ∀ {es : List Ent} {k m : Nat}, posG z es k = some m → ∃ i e, m = k + i ∧ es[i]? = some e ∧ e.id = z
  | [], _, _, h => by cases h
  | u :: l, k, m, h => by
    unfold posG at h
    by_cases hu : u.id = z
    · rw [if_pos hu] at h
      exact ⟨0, u, (Option.some.inj h).symm, by simp, hu⟩
    · rw [if_neg hu] at h
      obtain ⟨i, e, h1, h2, h3⟩ := posG_is h
      exact ⟨i + 1, e, by omega, by simpa using h2, h3⟩
theorem posS_le {es : List Ent} {z : Str} {k : Nat} (h : posS es z = some k) : k ≤ es.length := by
  unfold posS at h
  by_cases hz : z = ""
  · rw [if_pos hz] at h
    have := Option.some.inj h
    omega
  · rw [if_neg hz] at h
    obtain ⟨i, e, h1, h2, _⟩ := posG_is h
    have := (List.getElem?_eq_some_iff.mp h2).1
    omega
theorem posD_le {es : List Ent} {d : PyData} {k : Nat} (h : posD es d = some k) : k ≤ es.length := by
  cases d with
  | str z => exact posS_le h
  | _ => cases h
/-- what stands at k < length is found by its id -/
theorem posS_of {es : List Ent} {k : Nat} {e : Ent} (nd : (es.map Ent.id).Nodup) (h : es[k]? = some e) (hz : e.id ≠ "") : posS es e.id = some k := by
  unfold posS
  rw [if_neg hz, posG_at h rfl, Nat.zero_add]
  intro j e' hj hj' q
  have h1 : (es.map Ent.id)[j]? = some e.id := by rw [List.getElem?_map, hj', ← q]; rfl
  have h2 : (es.map Ent.id)[k]? = some e.id := by rw [List.getElem?_map, h]; rfl
  have hk : k < (es.map Ent.id).length := (List.getElem?_eq_some_iff.mp h2).1
  obtain ⟨hj2, g1⟩ := List.getElem?_eq_some_iff.mp h1
  obtain ⟨hk2, g2⟩ := List.getElem?_eq_some_iff.mp h2
  have pw := List.nodup_iff_pairwise_ne.mp nd
  rw [List.pairwise_iff_getElem] at pw
  exact pw j k hj2 hk2 hj (by rw [g1, g2])
def spPosX (CI : Addr) : Sp := fun vs H Q E => ∃ (v u : V) (es : List Ent) (d : PyData) (ex : List Addr), vs = [v, u] ∧ Rp ex H (logD es) v ∧ Rp ex H d u ∧
  (∀ k : Nat, posD es d = some k → ∀ H', Kp [] H H' → Q (.int (k : Nat)) H') ∧ (posD es d = none → ∀ dd H', Kp [] H H' → H' dd = some (.xd [("entry_id", u)]) → E (.ref CI) (some dd) H')
section
variable {P : Program} {w : World} {K : PySem.W.Frag} {mg : Str → Option Value} {base : Heap}
theorem ok_posX (DPositionIn : Fn K mg "position_in" sPositionIn ["log", "entry_id"]) (XI : ErrI K mg "UnknownId" "entry_id" sUnknownid) (GI : FnOk P w K mg base CX0 1 XI.fI XI.fd ["self", "entry_id"] (spInit XI.C "entry_id")) (b_len : mg "len" = none) (b_enumerate : mg "enumerate" = none) (gE : ∃ u, mg "END" = some u ∧ L2.RelV (.str "") u) (g1 : ∃ u, mg "ID" = some u ∧ L2.RelV (.int 1) u) :
    FnOk P w K mg base (L2.CX P w) 3 DPositionIn.f DPositionIn.fd ["log", "entry_id"] (spPosX XI.C) := by
  refine DPositionIn.F.okX scPositionIn (fun vs H Q E h => ?_) (fun cdv A outer s H vs Q E hr h => ?_)
  · obtain ⟨v, u, es, d, ex, rfl, _⟩ := h
    rfl
  obtain ⟨v, u, es, d, ex, rfl, rv, ru, yes, no⟩ := h
  refine ⟨_, pss_cons (ps_if (pt_cmpR (op_eqDS hr.units) (pv 1) (pe_gc (v := .str "") rfl gE) (nomark _))
      (pss_one (ps_ret (pe_callB (lenE K) (by rfl) b_len (by decide +kernel) (pa_cons (pv 0) pa_nil))))
      pss_nil)
      (pss_cons (ps_for (passes_of rfl) rfl (pi_enumT K (by rfl) b_enumerate (pa_cons (pv 0) pa_nil)) (pg_tupE K (by rfl) (pgs_cons (pg_name (i := 2) scPositionIn.nd rfl (.inl rfl)) (pgs_cons (pg_name (i := 3) scPositionIn.nd rfl (.inl rfl)) pgs_nil)))
      (pss_one (ps_if (pt_cmpR (op_eqSD hr.units) (pe_ix (ixtE K) (pv 3) (pe_gc (v := .int 1) rfl g1) (fun _ _ => rfl)) (pv 1) (nomark _))
      (pss_one (ps_ret (pv 2)))
      pss_nil)))
      (pss_one (ps_raise rfl (takes_of rfl rfl rfl rfl) (pmk_erri GI XI.b XI.g XI.T XI.iC XI.tI hr (pv 1))))), ?_⟩
  obtain ⟨a, xs, rfl, na, ha, hx⟩ := rv
  have hl : es.length = xs.length := by
    have := hx.length
    rwa [List.length_map] at this
  refine ⟨_, rfl, d, ex, "", rfl, ru, _, rfl, ?_⟩
  cases h0 : strD "" d with
  | true =>
    obtain rfl := strD_iff.mp h0
    refine iteT ⟨_, rfl, a, xs, rfl, .inr (.inl (.inl ha)), ?_⟩
    rw [← hl]
    exact yes es.length (by show posS es "" = _; unfold posS; rw [if_pos rfl]) H Kp.refl
  | false =>
    refine iteF ⟨_, rfl, a, xs, rfl, .inl (.inl ha), for_enumT (K := K) (a := a) (xs := xs) (fun i σ H' => ∃ c2 c3 : Option V, σ = [some (.ref a), some u, c2, c3] ∧ Kp [] H H' ∧ ∀ j e', j < i → es[j]? = some e' → strD e'.id d = false) ⟨none, none, rfl, Kp.refl, fun j e' hj => absurd hj (by omega)⟩ ?_ ?_ ?_⟩
    · rintro i σ H' ⟨_, _, _, k', _⟩
      exact .inl (.inl (k' _ _ (by simp) ha))
    · rintro i x T σ H1 hxi ⟨c2, c3, rfl, k1, before⟩ nT
      have kT : Kp [] H1 (upd H1 T (.tup [.int (i : Nat), x])) := Kp.laid nT
      have hT : (upd H1 T (.tup [.int (i : Nat), x])) T = some (.tup [.int (i : Nat), x]) := upd_same
      obtain ⟨e', he'⟩ : ∃ e', es[i]? = some e' := ⟨_, List.getElem?_eq_getElem (by have := (List.getElem?_eq_some_iff.mp hxi).1; omega)⟩
      obtain ⟨x', hx', rx⟩ := RpAll.at hx (show (es.map Ent.data)[i]? = some e'.data by rw [List.getElem?_map, he']; rfl)
      rw [hxi] at hx'
      obtain rfl := Option.some.inj hx'
      have k2 := k1.trans kT
      have rx2 := Rp.keep (k2.mono (ex' := ex) (by simp)) _ _ rx
      have ru2 := Rp.keep (k2.mono (ex' := ex) (by simp)) _ _ ru
      obtain ⟨d1, ed1, hd1, _⟩ := ent_reads e'
      refine ⟨T, _, rfl, .inl (.inl hT), rfl, _, _, rfl, _, _, rfl, rfl, ?_⟩
      refine ⟨_, rfl, c_of (ent_ix rx2 ed1 hd1 rfl fun vi ri => ?_)⟩
      obtain rfl : vi = .str e'.id := ri
      refine ⟨_, rfl, d, ex, e'.id, rfl, ru2, _, rfl, ?_⟩
      cases hs : strD e'.id d with
      | true =>
        obtain rfl := strD_iff.mp hs
        have hz : e'.id ≠ "" := fun z => by rw [z] at h0; simp [strD] at h0
        have hp : posD es (.str e'.id) = some i := by
          show posS es e'.id = some i
          unfold posS
          rw [if_neg hz, posG_at he' rfl, Nat.zero_add]
          intro j e2 hj h2 q
          have := before j e2 hj h2
          rw [q] at this
          simp [strD] at this
        exact iteT ⟨_, rfl, yes i hp _ k2⟩
      | false =>
        refine iteF ⟨_, _, rfl, k2, fun j e2 hj h2 => ?_⟩
        by_cases hji : j = i
        · subst hji
          rw [he'] at h2
          obtain rfl := Option.some.inj h2
          exact hs
        · exact before j e2 (by omega) h2
    · rintro σ H1 ⟨c2, c3, rfl, k1, before⟩
      have hp : posD es d = none := by
        cases d with
        | str z =>
          show posS es z = none
          have hz : z ≠ "" := fun q => by rw [q] at h0; simp [strD] at h0
          unfold posS
          rw [if_neg hz]
          refine posG_no fun e he q => ?_
          obtain ⟨j, hj, h2⟩ := List.getElem_of_mem he
          have := before j e (by omega) (by rw [List.getElem?_eq_getElem hj, h2])
          rw [q] at this
          simp [strD] at this
        | _ => rfl
      exact ⟨_, rfl, fun dd H' k h => no hp dd H' (k1.trans k) h⟩
end
end NV
/-! V1a -/
set_option Elab.async false
set_option linter.all false
set_option maxRecDepth 100000
set_option maxHeartbeats 1000000
/-! the package's cells_written, is_write_at, is_read_at, position_in, asked of what is there -/
namespace NV
open PySem PySem.Spec PyProof.Rows L2
open C8 (pss_cut pe_gc)
abbrev sCellsWritten : Stmt := topS 29
theorem scCellsWritten : FnScope ["entry"] ["entry"] (defScope sCellsWritten) := ⟨rfl, rfl, rfl, by decide +kernel, rfl, by decide +kernel, by decide +kernel⟩
abbrev sIsReadAt : Stmt := topS 31
theorem scIsReadAt : FnScope ["log", "position", "cell"] ["log", "position", "cell"] (defScope sIsReadAt) := ⟨rfl, rfl, rfl, by decide +kernel, rfl, by decide +kernel, by decide +kernel⟩
def spCellsW : Sp := fun vs H Q _ => ∃ (v : V) (e : Ent) (ex : List Addr), vs = [v] ∧ Rp ex H e.data v ∧ ∀ p H', Kp [] H H' → H' p = some (.tup (e.ws.map V.str)) → Q (.ref p) H'
/-- a cell is read there: at the end any cell -/
def spReadAt : Sp := fun vs H Q _ => ∃ (v : V) (es : List Ent) (ex : List Addr) (k : Nat) (c : Str), vs = [v, .int (k : Nat), .str c] ∧ Rp ex H (logD es) v ∧ k ≤ es.length ∧ cellB c = true ∧ (∀ e, es[k]? = some e → c ∈ e.rs) ∧ Q (.bl true) H
section
variable {P : Program} {w : World} {K : PySem.W.Frag} {mg : Str → Option Value} {base : Heap}
theorem ok_cellsw (DCellsWritten : Fn K mg "cells_written" sCellsWritten ["entry"]) (g0 : ∃ u, mg "KIND" = some u ∧ L2.RelV (.int 0) u) (g3 : ∃ u, mg "WRITES" = some u ∧ L2.RelV (.int 3) u) : FnOk P w K mg base CX0 1 DCellsWritten.f DCellsWritten.fd ["entry"] spCellsW := by
  refine DCellsWritten.F.ok scCellsWritten (fun vs H Q E h => ?_) (fun cdv A outer s H vs Q E hr h => ?_)
  · obtain ⟨v, e, ex, rfl, _⟩ := h
    rfl
  obtain ⟨v, e, ex, rfl, rv, q⟩ := h
  refine ⟨_, pss_one (ps_ret (pe_ifExp (pt_cmpR op_eq (pe_ix (ixtE K) (pv 0) (pe_gc (v := .int 0) rfl g0) (fun _ _ => rfl)) pe_str (nomark _)) (pe_ix (ixtE K) (pv 0) (pe_gc (v := .int 3) rfl g3) (fun _ _ => rfl)) (pe_tup pa_nil))), ?_⟩
  obtain ⟨d0, ed0, hd0⟩ := ent_kind e
  refine ⟨_, rfl, c_of (ent_ix rv ed0 hd0 rfl fun vk rk => ?_)⟩
  obtain rfl : vk = .str (if e.isW then "write" else "query") := rk
  refine ⟨rfl, _, rfl, ?_⟩
  rw [kind_w]
  cases hw : e.isW with
  | true =>
    obtain ⟨d3, ed3, hd3, _⟩ := ent_writes hw
    refine iteT ⟨_, rfl, c_of (ent_ix rv ed3 hd3 rfl fun u ru => ?_)⟩
    obtain ⟨a, cs, rfl, na, ha, hcs⟩ := ru
    obtain rfl := strs_of hcs
    exact q a H Kp.refl ha
  | false =>
    refine iteF ⟨Nat.zero_le _, fun p np => q p _ (Kp.laid np) ?_⟩
    rw [upd_same]
    cases e with
    | wr _ _ _ _ => cases hw
    | qu _ _ => rfl
theorem ok_readat (DIsReadAt : Fn K mg "is_read_at" sIsReadAt ["log", "position", "cell"]) (DIsCell : Fn K mg "is_cell" sIsCell ["value"]) (b_len : mg "len" = none) (g2 : ∃ u, mg "READS" = some u ∧ L2.RelV (.int 2) u)
    (GIsCell : FnOk P w K mg base CX0 2 DIsCell.f DIsCell.fd ["value"] (spIs (wordD 4 false))) : FnOk P w K mg base CX0 3 DIsReadAt.f DIsReadAt.fd ["log", "position", "cell"] spReadAt := by
  refine DIsReadAt.F.ok scIsReadAt (fun vs H Q E h => ?_) (fun cdv A outer s H vs Q E hr h => ?_)
  · obtain ⟨v, es, ex, k, c, rfl, _⟩ := h
    rfl
  obtain ⟨v, es, ex, k, c, rfl, rv, hk, hc, hrs, q⟩ := h
  refine ⟨_, pss_one (ps_ret (pe_ifExp (pt_cmpR op_eq (pv 1) (pe_callB (lenE K) (by rfl) b_len (by decide +kernel) (pa_cons (pv 0) pa_nil)) (nomark _)) (pe_fn DIsCell GIsCell hr (pa_cons (pv 2) pa_nil))
      (pe_cmpR (inE K) (pv 2) (pe_ix (ixtE K) (pe_ix (ixtE K) (pv 0) (pv 1) (fun _ _ => rfl)) (pe_gc (v := .int 2) rfl g2) (fun _ _ => rfl)) (by rfl)))), ?_⟩
  obtain ⟨a, xs, rfl, na, ha, hx⟩ := rv
  have hl : es.length = xs.length := by
    have := hx.length
    rwa [List.length_map] at this
  refine ⟨_, rfl, _, rfl, a, xs, rfl, .inr (.inl (.inl ha)), rfl, _, rfl, ?_⟩
  by_cases he : k = es.length
  · rw [decide_eq_true (show V.int (k : Nat) = V.int (xs.length : Nat) by rw [he, hl])]
    obtain ⟨h1, h2⟩ := word_len hc
    refine iteT ⟨_, rfl, .str c, .str c, ex, rfl, rfl, ?_, ?_⟩
    · simp only [niceD, Bool.and_eq_true, decide_eq_true_eq]
      exact ⟨by omega, h2⟩
    · show Q (.bl (cellB c)) H
      rw [hc]
      exact q
  · rw [decide_eq_false (show ¬ V.int (k : Nat) = V.int (xs.length : Nat) from fun h => by have := V.int.inj h; omega)]
    obtain ⟨e, hek⟩ : ∃ e, es[k]? = some e := ⟨_, List.getElem?_eq_getElem (by omega)⟩
    obtain ⟨d2, ed2, _, hd2⟩ := ent_reads e
    refine iteF ⟨_, rfl, _, rfl, _, rfl, ixD (j := k) rfl ha hx (by rw [List.getElem?_map, hek]; rfl) fun ve re => c_of (ent_ix re ed2 hd2 rfl fun u ru => ?_)⟩
    obtain ⟨ra, cs, rfl, nra, hra, hcs⟩ := ru
    obtain rfl := strs_of hcs
    refine in_names hra ?_
    rw [decide_eq_true (hrs e hek)]
    exact q
end
end NV
/-! LcE -/
set_option Elab.async false
set_option linter.all false
set_option maxRecDepth 100000
set_option maxHeartbeats 1000000
/-! comprehensions over entries: some of them, something of each -/
namespace NV
open PySem PySem.Spec PyProof.Rows L2
/-- what a walk over xs is -/
structure Walks (J : It) (xs : List V) (C : Addr) (H1 : Hp) : Prop where
  go : ∀ k H, k < xs.length → Kp [C] H1 H → J.go k H
  stop : ∀ H, Kp [C] H1 H → J.stop xs.length H
  yld : ∀ k H x H', Kp [C] H1 H → J.yld k H x H' → H' = H ∧ xs[k]? = some x
theorem walks_tup {K : PySem.W.Frag} {a C : Addr} {xs : List V} {H1 : Hp} (h : H1 a = some (.tup xs)) (nC : H1 C = none) : Walks (Itt K a) xs C H1 := by
  have ne : a ∉ [C] := fun z => by rw [List.mem_singleton.mp z, nC] at h; cases h
  have s : ∀ {H : Hp}, Kp [C] H1 H → SqT K H a xs := fun k => .inl (.inl (k _ _ ne h))
  exact ⟨fun k H hk kp => ⟨_, _, s kp, List.getElem?_eq_getElem hk⟩, fun H kp => ⟨_, s kp, Nat.le_refl _⟩, fun k H x H' kp y => ⟨y.1, y.2 _ (s kp)⟩⟩
theorem walks_lst {K : PySem.W.Frag} {a C : Addr} {xs : List V} {H1 : Hp} (h : H1 a = some (.lst xs)) (nC : H1 C = none) : Walks (Itl K a) xs C H1 := by
  have ne : a ∉ [C] := fun z => by rw [List.mem_singleton.mp z, nC] at h; cases h
  have s : ∀ {H : Hp}, Kp [C] H1 H → SqL K H a xs := fun k => .inl (.inl (k _ _ ne h))
  exact ⟨fun k H hk kp => ⟨_, _, s kp, List.getElem?_eq_getElem hk⟩, fun H kp => ⟨_, s kp, Nat.le_refl _⟩, fun k H x H' kp y => ⟨y.1, y.2 _ (s kp)⟩⟩
theorem lc_ents {J : It} {tt : TT} {te : TE} {i : Nat} {σ : L2.St} {C : Addr} {H1 : Hp} {Qd : Hp → Prop} {xs : List V} {gs : List Ent} {ex : List Addr} (f : Ent → PyData) (p : Ent → Bool) (wk : Walks J xs C H1) (nC : H1 C = none) (hx : RpAll ex H1 (gs.map Ent.data) xs) (hz : xs.length < 1000)
    (htt : ∀ (e : Ent) (x : V) (H : Hp) (Q : Bool → Hp → Prop), e ∈ gs → Kp [C] H1 H → Rp (C :: ex) H e.data x → (∀ H', Kp [] H H' → Q (p e) H') → tt ((wipe σ [i]).set i (some x)) H Q)
    (hte : ∀ (e : Ent) (x : V) (H : Hp) (Q : V → Hp → Prop), e ∈ gs → p e = true → Kp [C] H1 H → Rp (C :: ex) H e.data x → (∀ v H', Kp [] H H' → Rp (C :: ex) H' (f e) v → Q v H') → te ((wipe σ [i]).set i (some x)) H Q)
    (hd : ∀ H' ys, Kp [C] H1 H' → H' C = some (.lst ys) → RpAll (C :: ex) H' ((gs.filter p).map f) ys → Qd H') (hw : ∀ x : V, wipe ((wipe σ [i]).set i (some x)) [i] = wipe σ [i]) :
    ∃ W : Nat → Nat → Hp → Prop, (∃ m, W 0 m (upd H1 C (.lst []))) ∧ ∀ i' m H, W i' m H →
      (J.stop i' H ∧ Qd H) ∨ (J.go i' H ∧ ∃ Nx : Hp → Prop, (∀ H', Nx H' → ∃ m', m' < m ∧ W (i' + 1) m' H') ∧ ∀ x H', J.yld i' H x H' → gName i x (wipe σ [i]) H' fun σ2 H2 => wipe σ2 [i] = wipe σ [i] ∧ tt σ2 H2 fun b H3 =>
        if b = true then te σ2 H3 fun y H4 => ∃ acc, H4 C = some (.lst acc) ∧ acc.length < sizeLine ∧ Nx (upd H4 C (.lst (acc ++ [y]))) else Nx H3) := by
  have hl : gs.length = xs.length := by
    have := hx.length
    rwa [List.length_map] at this
  have line : (100000 : Nat) < sizeLine := by decide
  have hxC : RpAll (C :: ex) (upd H1 C (.lst [])) (gs.map Ent.data) xs := RpAll.keep (Kp.laid nC) _ _ (RpAll.apart nC _ _ hx)
  refine lc_inv xs.length (fun j H => Kp [C] H1 H ∧ ∃ ys, H C = some (.lst ys) ∧ ys.length ≤ j ∧ RpAll (C :: ex) H (((gs.take j).filter p).map f) ys) ⟨Kp.laid nC, [], upd_same, Nat.zero_le _, rfl⟩ ?_ (fun j H hj ⟨k, _⟩ => wk.go j H hj k) ?_
  · rintro H ⟨k, ys, hC, hlen, hy⟩
    rw [← hl, List.take_length] at hy
    exact ⟨wk.stop H k, hd H ys k hC hy⟩
  · rintro j H x H' hj ⟨k, ys, hC, hlen, hy⟩ y
    obtain ⟨rfl, hxj⟩ := wk.yld j H x H' k y
    obtain ⟨e, he⟩ : ∃ e, gs[j]? = some e := ⟨_, List.getElem?_eq_getElem (by omega)⟩
    have hm : e ∈ gs := List.mem_of_getElem? he
    obtain ⟨x', hx', rx⟩ := RpAll.at hxC (show (gs.map Ent.data)[j]? = some e.data by rw [List.getElem?_map, he]; rfl)
    rw [hxj] at hx'
    obtain rfl := Option.some.inj hx'
    have rx2 : Rp (C :: ex) H' e.data x := by
      refine Rp.keep (fun b o hb ho => ?_) _ _ rx
      have hbC : b ≠ C := fun z => hb (by rw [z]; simp)
      rw [upd_ne hbC] at ho
      exact k b o (by simpa using hbC) ho
    have tk : ∀ b, p e = b → ((gs.take (j + 1)).filter p).map f = ((gs.take j).filter p).map f ++ (if b then [f e] else []) := fun b hb => by
      rw [List.take_add_one, he, List.filter_append, List.map_append]
      cases b <;> simp [List.filter, hb]
    refine ⟨hw x, htt e x H' _ hm k rx2 fun H2 k2 => ?_⟩
    have kC2 : Kp [C] H1 H2 := k.trans (k2.mono (by simp))
    have hC2 := k2 _ _ (by simp) hC
    have rx3 := Rp.keep (k2.mono (ex' := C :: ex) (by simp)) _ _ rx2
    have hy2 := RpAll.keep (k2.mono (ex' := C :: ex) (by simp)) _ _ hy
    cases hp : p e with
    | true =>
      rw [if_pos rfl]
      refine hte e x H2 _ hm hp kC2 rx3 fun v H3 k3 rv => ?_
      refine ⟨ys, k3 _ _ (by simp) hC2, by omega, kC2.trans ((k3.mono (by simp)).trans (Kp.put (by simp))), ys ++ [v], upd_same, by rw [List.length_append]; simp; omega, ?_⟩
      rw [tk true hp]
      exact RpAll.app (RpAll.keep ((k3.mono (by simp)).trans (Kp.put (by simp))) _ _ hy2) (RpAll.one (Rp.keep (Kp.put (by simp)) _ _ rv))
    | false =>
      rw [if_neg (by simp)]
      refine ⟨kC2, ys, hC2, by omega, ?_⟩
      rw [tk false hp]
      simpa using hy2
theorem kpn {H H' : Hp} {p : Addr} (k : Kp [] H H') (h : H' p = none) : H p = none := by
  cases e : H p with
  | none => rfl
  | some o => rw [k _ _ (by simp) e] at h; cases h
theorem wipe_one (σ : L2.St) (i : Nat) (x : V) : wipe ((wipe σ [i]).set i (some x)) [i] = wipe σ [i] := by
  show ((((σ.set i none).set i (some x)).set i none) : L2.St) = σ.set i none
  rw [List.set_set, List.set_set]
end NV
/-! EdgeX -/
set_option Elab.async false
set_option linter.all false
set_option maxRecDepth 100000
set_option maxHeartbeats 1000000
/-! the package's is_edge, blocking_writes, asked of anything -/
namespace NV
open PySem PySem.Spec PyProof.Rows L2
open C8 (pss_cut pe_gc)
abbrev sIsEdge : Stmt := topS 36
theorem scIsEdge : FnScope ["log", "start", "stop", "cell"] ["log", "start", "stop", "cell"] (defScope sIsEdge) := ⟨rfl, rfl, rfl, by decide +kernel, rfl, by decide +kernel, by decide +kernel⟩
abbrev sBlockingWrites : Stmt := topS 37
theorem scBlockingWrites : FnScope ["log", "start", "stop", "cell", "entry"] ["log", "start", "stop", "cell"] (defScope sBlockingWrites) := ⟨rfl, rfl, rfl, by decide +kernel, rfl, by decide +kernel, by decide +kernel⟩
/-! ### edges -/
def wsAt (es : List Ent) (i : Nat) : List Str := match es[i]? with
  | some e => e.ws
  | none => []
def rsAt (es : List Ent) (j : Nat) (c : Str) : Bool := match es[j]? with
  | some e => decide (c ∈ e.rs)
  | none => true
def edgeD (es : List Ent) (i j : Nat) : PyData → Bool
  | .str c => decide (c ∈ wsAt es i) && rsAt es j c
  | _ => false
def betw (es : List Ent) (i j : Nat) (c : Str) : List Ent := ((es.drop (i + 1)).take (j - (i + 1))).filter fun e => decide (c ∈ e.ws)
theorem any_strD {zs : List Str} {d : PyData} : (zs.any fun z => strD z d) = match d with
    | .str c => decide (c ∈ zs)
    | _ => false := by
  cases d with
  | str c =>
    show (zs.any fun z => decide (c = z)) = decide (c ∈ zs)
    by_cases h : c ∈ zs
    · rw [decide_eq_true h, List.any_eq_true]
      exact ⟨c, h, by simp⟩
    · rw [decide_eq_false h, List.any_eq_false]
      exact fun z hz => by simpa using fun q : c = z => h (by rw [q]; exact hz)
  | _ => simp [strD]
theorem Ent.Ok.wsB {e : Ent} (h : e.Ok) : ∀ c ∈ e.ws, cellB c = true := by
  cases e with
  | wr id rs ws pr =>
    obtain ⟨_, _, h3, _⟩ := h
    exact fun c hc => h3.ok c hc
  | qu id cs => exact fun c hc => by cases hc
def spReadAtB : Sp := fun vs H Q _ => ∃ (v : V) (es : List Ent) (ex : List Addr) (k : Nat) (c : Str), vs = [v, .int (k : Nat), .str c] ∧ Rp ex H (logD es) v ∧ k ≤ es.length ∧ cellB c = true ∧ Q (.bl (rsAt es k c)) H
def spEdge : Sp := fun vs H Q _ => ∃ (v u : V) (es : List Ent) (d : PyData) (ex : List Addr) (i j : Nat), vs = [v, .int (i : Nat), .int (j : Nat), u] ∧ Rp ex H (logD es) v ∧ (∀ e ∈ es, e.Ok) ∧ Rp ex H d u ∧ i < es.length ∧ j ≤ es.length ∧ ∀ H', Kp [] H H' → Q (.bl (edgeD es i j d)) H'
def spBetw : Sp := fun vs H Q _ => ∃ (v : V) (es : List Ent) (ex : List Addr) (i j : Nat) (c : Str), vs = [v, .int (i : Nat), .int (j : Nat), .str c] ∧ Rp ex H (logD es) v ∧ es.length ≤ 60 ∧ Live ex H ∧ i < j ∧ j ≤ es.length ∧
  ∀ l xs H', Kp [] H H' → H l = none → l ∉ ex → H' l = some (.lst xs) → RpAll ex H' ((betw es i j c).map Ent.data) xs → Q (.ref l) H'
theorem cutV_nat (xs : List V) (a b : Nat) (hab : a ≤ b) (hb : b ≤ xs.length) : cutV xs (some (a : Int)) (some (b : Int)) = (xs.drop a).take (b - a) := by
  unfold cutV
  rw [HT.sIx_nat, HT.sIx_nat, Nat.min_eq_left hb, Nat.min_eq_left (Nat.le_trans hab hb)]
section
variable {P : Program} {w : World} {K : PySem.W.Frag} {mg : Str → Option Value} {base : Heap}
theorem ok_readatB (DIsReadAt : Fn K mg "is_read_at" sIsReadAt ["log", "position", "cell"]) (DIsCell : Fn K mg "is_cell" sIsCell ["value"]) (b_len : mg "len" = none) (g2 : ∃ u, mg "READS" = some u ∧ L2.RelV (.int 2) u)
    (GIsCell : FnOk P w K mg base CX0 2 DIsCell.f DIsCell.fd ["value"] (spIs (wordD 4 false))) : FnOk P w K mg base CX0 3 DIsReadAt.f DIsReadAt.fd ["log", "position", "cell"] spReadAtB := by
  refine DIsReadAt.F.ok scIsReadAt (fun vs H Q E h => ?_) (fun cdv A outer s H vs Q E hr h => ?_)
  · obtain ⟨v, es, ex, k, c, rfl, _⟩ := h
    rfl
  obtain ⟨v, es, ex, k, c, rfl, rv, hk, hc, q⟩ := h
  refine ⟨_, pss_one (ps_ret (pe_ifExp (pt_cmpR op_eq (pv 1) (pe_callB (lenE K) (by rfl) b_len (by decide +kernel) (pa_cons (pv 0) pa_nil)) (nomark _)) (pe_fn DIsCell GIsCell hr (pa_cons (pv 2) pa_nil))
      (pe_cmpR (inE K) (pv 2) (pe_ix (ixtE K) (pe_ix (ixtE K) (pv 0) (pv 1) (fun _ _ => rfl)) (pe_gc (v := .int 2) rfl g2) (fun _ _ => rfl)) (by rfl)))), ?_⟩
  obtain ⟨a, xs, rfl, na, ha, hx⟩ := rv
  have hl : es.length = xs.length := by
    have := hx.length
    rwa [List.length_map] at this
  refine ⟨_, rfl, _, rfl, a, xs, rfl, .inr (.inl (.inl ha)), rfl, _, rfl, ?_⟩
  by_cases he : k = es.length
  · rw [decide_eq_true (show V.int (k : Nat) = V.int (xs.length : Nat) by rw [he, hl])]
    obtain ⟨h1, h2⟩ := word_len hc
    have e : rsAt es k c = true := by unfold rsAt; rw [he, List.getElem?_eq_none (Nat.le_refl _)]
    rw [e] at q
    refine iteT ⟨_, rfl, .str c, .str c, ex, rfl, rfl, ?_, ?_⟩
    · simp only [niceD, Bool.and_eq_true, decide_eq_true_eq]
      exact ⟨by omega, h2⟩
    · show Q (.bl (cellB c)) H
      rw [hc]
      exact q
  · rw [decide_eq_false (show ¬ V.int (k : Nat) = V.int (xs.length : Nat) from fun h => by have := V.int.inj h; omega)]
    obtain ⟨e, hek⟩ : ∃ e, es[k]? = some e := ⟨_, List.getElem?_eq_getElem (by omega)⟩
    have e2 : rsAt es k c = decide (c ∈ e.rs) := by unfold rsAt; rw [hek]
    rw [e2] at q
    obtain ⟨d2, ed2, _, hd2⟩ := ent_reads e
    refine iteF ⟨_, rfl, _, rfl, _, rfl, ixD (j := k) rfl ha hx (by rw [List.getElem?_map, hek]; rfl) fun ve re => c_of (ent_ix re ed2 hd2 rfl fun u ru => ?_)⟩
    obtain ⟨ra, cs, rfl, nra, hra, hcs⟩ := ru
    obtain rfl := strs_of hcs
    exact in_names hra q
theorem ok_edge (DIsEdge : Fn K mg "is_edge" sIsEdge ["log", "start", "stop", "cell"]) (DCellsWritten : Fn K mg "cells_written" sCellsWritten ["entry"]) (DIsReadAt : Fn K mg "is_read_at" sIsReadAt ["log", "position", "cell"])
    (GCellsWritten : FnOk P w K mg base CX0 1 DCellsWritten.f DCellsWritten.fd ["entry"] spCellsW) (GIsReadAt : FnOk P w K mg base CX0 3 DIsReadAt.f DIsReadAt.fd ["log", "position", "cell"] spReadAtB) : FnOk P w K mg base CX0 4 DIsEdge.f DIsEdge.fd ["log", "start", "stop", "cell"] spEdge := by
  refine DIsEdge.F.ok scIsEdge (fun vs H Q E h => ?_) (fun cdv A outer s H vs Q E hr h => ?_)
  · obtain ⟨v, u, es, d, ex, i, j, rfl, _⟩ := h
    rfl
  obtain ⟨v, u, es, d, ex, i, j, rfl, rv, ok, ru, hi, hj, q⟩ := h
  refine ⟨_, pss_one (ps_ret (pe_and (pe_cmpR (op_inSD K hr.units) (pv 3) (pe_fn DCellsWritten GCellsWritten hr (pa_cons (pe_ix (ixtE K) (pv 0) (pv 1) (fun _ _ => rfl)) pa_nil)) (by rfl)) (pe_one (pe_fn DIsReadAt GIsReadAt hr (pa_cons (pv 0) (pa_cons (pv 2) (pa_cons (pv 3) pa_nil))))))), ?_⟩
  obtain ⟨e, he⟩ : ∃ e, es[i]? = some e := ⟨_, List.getElem?_eq_getElem hi⟩
  obtain ⟨a, xs, rfl, na, ha, hx⟩ := id rv
  refine ⟨_, rfl, _, rfl, _, rfl, ixD (j := i) rfl ha hx (by rw [List.getElem?_map, he]; rfl) fun ve re => ?_⟩
  refine ⟨ve, e, ex, rfl, re, fun p H1 k1 hp => ⟨d, ex, e.ws, p, Rp.keep (k1.mono (by simp)) _ _ ru, rfl, .inr (.inl (.inl hp)), _, rfl, ?_⟩⟩
  show if (e.ws.any fun z => strD z d) = true then _ else _
  rw [any_strD]
  have e1 : wsAt es i = e.ws := by unfold wsAt; rw [he]
  have ok_e : e.Ok := ok e (List.mem_of_getElem? he)
  cases d with
  | str c =>
    obtain rfl : u = .str c := ru
    have q1 : Q (.bl (decide (c ∈ e.ws) && rsAt es j c)) H1 := by
      have := q H1 k1
      unfold edgeD at this
      rw [e1] at this
      exact this
    show if decide (c ∈ e.ws) = true then _ else _
    by_cases hc : c ∈ e.ws
    · rw [decide_eq_true hc, Bool.true_and] at q1
      rw [decide_eq_true hc]
      exact iteT ⟨_, rfl, _, rfl, _, rfl, .ref a, es, ex, j, c, rfl, Rp.keep (k1.mono (by simp)) _ _ rv, hj, ok_e.wsB c hc, q1⟩
    · rw [decide_eq_false hc, Bool.false_and] at q1
      rw [decide_eq_false hc]
      exact iteF q1
  | _ => exact iteF (q H1 k1)
theorem ok_betw (DBlockingWrites : Fn K mg "blocking_writes" sBlockingWrites ["log", "start", "stop", "cell"]) (DCellsWritten : Fn K mg "cells_written" sCellsWritten ["entry"])
    (GCellsWritten : FnOk P w K mg base CX0 1 DCellsWritten.f DCellsWritten.fd ["entry"] spCellsW) : FnOk P w K mg base CX0 2 DBlockingWrites.f DBlockingWrites.fd ["log", "start", "stop", "cell"] spBetw := by
  refine DBlockingWrites.F.ok scBlockingWrites (fun vs H Q E h => ?_) (fun cdv A outer s H vs Q E hr h => ?_)
  · obtain ⟨v, es, ex, i, j, c, rfl, _⟩ := h
    rfl
  obtain ⟨v, es, ex, i, j, c, rfl, rv, h60, lv, hij, hj, q⟩ := h
  refine ⟨_, pss_one (ps_ret (pe_lc (own := [("entry", 4)]) (g := gName 4) (by rfl) scBlockingWrites.nd (piTupE K (pe_slice (sltAE K) (pv 0) (po_some (pe_op op_add (pv 1) pe_int)) (po_some (pv 2)))) (blkOk_by (N := ["log", "start", "stop", "cell", "entry"]) (sc := defScope sBlockingWrites) (by decide +kernel)) (fun _ _ _ _ _ => (pg_name (i := 4) scBlockingWrites.nd rfl (.inl rfl))) (fun _ _ _ _ _ => (pts_one (pt_cmpR (inE K) (pv 3) (pe_fn DCellsWritten GCellsWritten hr (pa_cons (pv 4) pa_nil)) (by rfl)))) (fun _ _ _ _ _ => (pv 4)))), ?_⟩
  obtain ⟨a, xs, rfl, na, ha, hx⟩ := rv
  have hl : es.length = xs.length := by
    have := hx.length
    rwa [List.length_map] at this
  refine ⟨_, rfl, _, rfl, (i : Int), 1, rfl, rfl, _, rfl, _, rfl, _, rfl, slA ha na (fun p np => lv.fresh np) fun p1 H1 k1 e1 n1 => ?_⟩
  rw [show (i : Int) + 1 = ((i + 1 : Nat) : Int) by omega, cutV_nat xs (i + 1) j (by omega) (by omega)] at e1
  have hx1 : RpAll ex H1 (((es.drop (i + 1)).take (j - (i + 1))).map Ent.data) ((xs.drop (i + 1)).take (j - (i + 1))) := by
    have h1 := (RpAll.cutT (i + 1) (RpAll.keep (k1.mono (ex' := ex) (by simp)) _ _ hx)).2
    have h2 := (RpAll.cutT (j - (i + 1)) h1).1
    rwa [← List.map_drop, ← List.map_take] at h2
  refine ⟨p1, rfl, ⟨_, .inl (.inl e1)⟩, fun C nC => ?_⟩
  refine lc_ents (J := Itt K p1) (gs := (es.drop (i + 1)).take (j - (i + 1))) (ex := ex) Ent.data (fun e => decide (c ∈ e.ws)) (walks_tup e1 nC) nC hx1 (by rw [List.length_take, List.length_drop]; omega) (fun e x H2 Q2 hm k2 r2 q2 => ?_) (fun e x H2 Q2 hm hp k2 r2 q2 => ⟨x, rfl, q2 x H2 Kp.refl r2⟩) (fun H2 ys k2 e2 r2 => ?_) fun x => wipe_one _ _ _
  · exact ⟨_, rfl, _, rfl, x, e, _, rfl, r2, fun p H3 k3 e3 => in_names e3 ⟨_, rfl, q2 H3 k3⟩⟩
  · have nCx : C ∉ ex := (lv.kp0 k1).fresh nC
    have nCH : H C = none := kpn k1 nC
    exact q C ys H2 (k1.trans (Kp.drop k2 nC)) nCH nCx e2 (RpAll.less (fun b hb => List.mem_cons_of_mem _ hb) _ _ r2)
end
end NV
/-! CallQ -/
set_option Elab.async false
set_option linter.all false
set_option maxRecDepth 100000
set_option maxHeartbeats 600000
/-! a def of the top called in several ways: by keywords in any order, by keywords alone, without its keyword-only parameter -/
namespace NV
open PySem PySem.Spec PyProof.Rows L2
/-- a def of the top, however it is called -/
structure FnF (K : PySem.W.Frag) (mg : Str → Option Value) (nm : Str) (st : Stmt) : Type where
  f : Addr
  fd : FuncData
  F : Fun K nm nm st f fd
  m : mg nm = some (.ref f)
/-- what stands for the parameters that lack -/
structure Lack (K : PySem.W.Frag) (fd : FuncData) (ps : List Str) (dvs : List V) : Prop where
  ex : ∃ ds, Vals dvs ds ∧ Binds K fd ps ds
section
variable {K : PySem.W.Frag} {x qual : Str} {st : Stmt} {f : Addr} {fd : FuncData} {ps ks : List Str} {n : Nat} {g : List Value → List Value → List Value} {gV : List V → List V → List V}
theorem kbn_mk (F : Fun K x qual st f fd) (hb : ∀ (kV doc pm : Value) (an : Option Addr) (cdv ct : Value) (us ws : List Value), us.length = n → ws.length = ks.length → bindArgs (PySem.W.fnOf x qual (defArgs st) (defBody st) (defScope st) .none kV doc pm an cdv ct) ⟨us, ks.zip ws⟩ = pure (ps.zip (g us ws)))
    (hr : ∀ {vs : List V} {us : List Value} {zs : List V} {ws : List Value}, Vals vs us → Vals zs ws → Vals (gV vs zs) (g us ws)) : KBn K fd ps n ks g gV := by
  obtain ⟨oc, od, kV, doc, pm, an, cdv, ct, osl, rfl, lk, hcd⟩ := F.ex
  exact ⟨fun s us ws _ h1 h2 => .of_eq (hb kV doc pm an cdv ct us ws h1 h2), hr⟩
theorem binds_mk (F : Fun K x qual st f fd) (hb : ∀ (kV doc pm : Value) (an : Option Addr) (cdv ct : Value) (us : List Value), us.length = ps.length → bindArgs (PySem.W.fnOf x qual (defArgs st) (defBody st) (defScope st) .none kV doc pm an cdv ct) ⟨us, []⟩ = pure (ps.zip us)) : Binds K fd ps [] := F.binds hb
end
/-- a def with one keyword-only parameter q whose value, where it lacks, is told by φ -/
def AtQ (K : PySem.W.Frag) (nm : Str) (st : Stmt) (q : Str) (φ : Value → Prop) : Prop := ∃ (f D : Addr) (oc : Value) (od : Option Addr) (doc pm : Value) (an : Option Addr) (cd ct : Value) (sl : Array (Option Value)) (u : Value),
  PySem.W.nsIn K mainGlobals nm = some (some (.ref f)) ∧ K.lookup f = some ⟨oc, od, .func (PySem.W.fnOf nm nm (defArgs st) (defBody st) (defScope st) .none (.ref D) doc pm an cd ct), sl⟩ ∧ PySem.W.codeIn K cd nm = true ∧ PySem.W.keepIn K (.ref f) = true ∧ PySem.W.nsIn K D q = some (some u) ∧ φ u
/-- the empty tuple of the written part -/
def IsTup0 (K : PySem.W.Frag) (u : Value) : Prop := ∃ (T : Addr) (dT : Option Addr) (n : Nat) (sT : Array (Option Value)), u = .ref T ∧ K.lookup T = some ⟨.type "tuple", dT, .seq #[] n, sT⟩
def IsIntV (i : Int) (u : Value) : Prop := ∃ t, u = .int i t
section
variable {K : PySem.W.Frag} {h : Heap} {mg : Str → Option Value} {nm : Str} {st : Stmt} {q : Str} {φ : Value → Prop}
theorem atQ_mk {f D : Addr} {oc : Value} {od : Option Addr} {doc pm : Value} {an : Option Addr} {cd ct : Value} {sl : Array (Option Value)} {u : Value} (a : PySem.W.nsIn K mainGlobals nm = some (some (.ref f))) (l : K.lookup f = some ⟨oc, od, .func (PySem.W.fnOf nm nm (defArgs st) (defBody st) (defScope st) .none (.ref D) doc pm an cd ct), sl⟩)
    (c : PySem.W.codeIn K cd nm = true) (k : PySem.W.keepIn K (.ref f) = true) (d : PySem.W.nsIn K D q = some (some u)) (p : φ u) : AtQ K nm st q φ := ⟨f, D, oc, od, doc, pm, an, cd, ct, sl, u, a, l, c, k, d, p⟩
theorem tup0_mk {T : Addr} {dT : Option Addr} {n : Nat} {sT : Array (Option Value)} (l : K.lookup T = some ⟨.type "tuple", dT, .seq #[] n, sT⟩) : IsTup0 K (.ref T) := ⟨T, dT, n, sT, rfl, l⟩
theorem intV_mk {i : Int} {t : Tok} : IsIntV i (.int i t) := ⟨t, rfl⟩
/-- the def, and how it is called without q -/
theorem fnq_at {ps : List Str} (n : Nat) (X : K.In h) (G : h.Ns mainGlobals mg) (a : AtQ K nm st q φ) (hn : n + 1 = ps.length)
    (hb : ∀ (D : Addr) (doc pm : Value) (an : Option Addr) (cdv ct : Value) (us ks : List Value), us.length = n → ks.length = 1 → KwChain D ([q].zip ks) (bindArgs (PySem.W.fnOf nm nm (defArgs st) (defBody st) (defScope st) .none (.ref D) doc pm an cdv ct) ⟨us, []⟩) (ps.zip (us ++ ks))) :
    ∃ D : FnF K mg nm st, ∃ u, φ u ∧ ∀ v, RelV v u → Lack K D.fd ps [v] := by
  obtain ⟨f, D, oc, od, doc, pm, an, cd, ct, sl, u, a1, l1, c1, k1, d1, p1⟩ := a
  refine ⟨⟨f, _, fun_mk (st := st) l1 c1 k1, PySem.W.mg_of X G a1⟩, u, p1, fun v rv => ?_⟩
  have F : FunD K nm nm (defArgs st) (defBody st) (defScope st) [] [(q, v)] f (PySem.W.fnOf nm nm (defArgs st) (defBody st) (defScope st) .none (.ref D) doc pm an cd ct) :=
    ⟨⟨oc, od, .none, .ref D, doc, pm, an, cd, ct, sl, rfl, l1, c1, .inl ⟨rfl, rfl⟩, .inr ⟨D, rfl, fun p hp => ⟨u, by rw [List.mem_singleton.mp hp]; exact ⟨d1, rv⟩⟩⟩⟩, k1⟩
  obtain ⟨ds, hv, b⟩ := F.binds0 (ps := ps) n (by simp) (by simpa using hn) fun D doc pm an cdv ct us ks h1 h2 => hb D doc pm an cdv ct us ks h1 (by simpa using h2)
  exact ⟨ds, hv, b⟩
end
section
variable {X : Cx} {nm : Str} {st : Stmt} {ps ks : List Str} {sp : Sp} {e : Expr} {es : List Expr} {kws : List Keyword} {t tk : TA} {p pos : Pos} {j k n : Nat} {g : List Value → List Value → List Value} {gV : List V → List V → List V}
/-- f(e, .., k = v, ..) -/
theorem pe_q (D : FnF X.K X.mg nm st) (B : KBn X.K D.fd ps n ks g gV) (G : FnOk X.prog X.w X.K X.mg X.base CX0 j D.f D.fd ps sp) (hr : Room k X.A) (ha : PA X (e :: es) t) (hkw : PK X kws tk)
    (hk : j ≤ k := by decide) (hg : Gl X nm := by rfl) (hall : ((backToKw pos (keywordEach kws X.env)).all (·.1.isSome)) = true := by rfl) (hks : (backToKw pos (keywordEach kws X.env)).filterMap (·.1) = ks := by rfl) (hdb : (nm == ("__debug__" : Str)) = false := by decide)
    (he : starEach (e :: es) X.env = (false, eval e X.env) :: starEach es X.env := by rfl) (hpl : (((backTo pos (starEach (e :: es) X.env)).any (·.1)) || ((backToKw pos (keywordEach kws X.env)).any (·.1.isNone))) = false := by rfl) :
    PE X (.Call (.Name nm p) (e :: es) kws pos) (tCallN n ks.length sp gV (fun _ _ _ => False) t tk) := pe_callN G (hr.mono hk) hg D.m D.F.kp B pass0 ha hkw hall hks hdb he hpl
/-- f(k = v, ..) -/
def tCallW (m : Nat) (sp : Sp) (gV : List V → List V → List V) (tk : TA) : TE := fun σ H Q => tk σ H fun zs H2 => zs.length = m ∧ sp (gV [] zs) H2 Q (fun _ _ _ => False)
theorem pe_q0 (D : FnF X.K X.mg nm st) (B : KBn X.K D.fd ps 0 ks g gV) (G : FnOk X.prog X.w X.K X.mg X.base CX0 j D.f D.fd ps sp) (hr : Room k X.A) (hkw : PK X kws tk)
    (hk : j ≤ k := by decide) (hg : Gl X nm := by rfl) (hall : ((backToKw pos (keywordEach kws X.env)).all (·.1.isSome)) = true := by rfl) (hks : (backToKw pos (keywordEach kws X.env)).filterMap (·.1) = ks := by rfl) (hdb : (nm == ("__debug__" : Str)) = false := by decide)
    (hpl : (((backTo pos (starEach [] X.env)).any (·.1)) || ((backToKw pos (keywordEach kws X.env)).any (·.1.isNone))) = false := by rfl) :
    PE X (.Call (.Name nm p) [] kws pos) (tCallW ks.length sp gV tk) := by
  refine ⟨fun pins s σ H Q I h => ?_⟩
  refine wpAny_Call_Name_kw (ld_glob I hg D.m ?_ hdb)
  refine PySem.W.callWith_KW0 (h₀ := X.base) I.ok.mod.kin D.F.kp hall (thn (hkw.run pos pins s σ H _ I h) fun ws s2 ⟨zs, H2, I2, rz, l2, q2⟩ => ⟨I2.kIn, ?_⟩) hpl
  rw [hks]
  exact run_fnN (vs := []) G (hr.mono hk) B pass0 I2 .nil rz rfl l2 q2
/-- f(e, ..) with all that is wanted -/
theorem pe_qn (D : FnF X.K X.mg nm st) (B : Binds X.K D.fd ps []) (G : FnOk X.prog X.w X.K X.mg X.base CX0 j D.f D.fd ps sp) (hr : Room k X.A) (ha : PA X (e :: es) t)
    (hk : j ≤ k := by decide) (hg : Gl X nm := by rfl) (hdb : (nm == ("__debug__" : Str)) = false := by decide) (he : starEach (e :: es) X.env = (false, eval e X.env) :: starEach es X.env := by rfl) (hpl : (backTo pos (starEach es X.env)).any (·.1) = false := by rfl) :
    PE X (.Call (.Name nm p) (e :: es) [] pos) (tCall sp [] (fun _ _ _ => False) t) := pe_call G (hr.mono hk) hg D.m D.F.kp B .nil pass0 ha hdb he hpl
/-- f(e, ..), some lacking -/
theorem pe_ql {dvs : List V} (D : FnF X.K X.mg nm st) (B : Lack X.K D.fd ps dvs) (G : FnOk X.prog X.w X.K X.mg X.base CX0 j D.f D.fd ps sp) (hr : Room k X.A) (ha : PA X (e :: es) t)
    (hk : j ≤ k := by decide) (hg : Gl X nm := by rfl) (hdb : (nm == ("__debug__" : Str)) = false := by decide) (he : starEach (e :: es) X.env = (false, eval e X.env) :: starEach es X.env := by rfl) (hpl : (backTo pos (starEach es X.env)).any (·.1) = false := by rfl) :
    PE X (.Call (.Name nm p) (e :: es) [] pos) (tCall sp dvs (fun _ _ _ => False) t) := by
  obtain ⟨ds, vs, b⟩ := B.ex
  exact pe_call G (hr.mono hk) hg D.m D.F.kp b vs pass0 ha hdb he hpl
end
end NV
/-! PthX -/
set_option Elab.async false
set_option linter.all false
set_option maxRecDepth 100000
set_option maxHeartbeats 1000000
/-! the package's reader_position, path_blockers, asked of anything -/
namespace NV
open PySem PySem.Spec PyProof.Rows L2
open C8 (pss_cut pe_gc)
abbrev sReaderPosition : Stmt := topS 38
theorem scReaderPosition : FnScope ["log", "start", "step", "ids", "stop", "reader", "cell", "entry"] ["log", "start", "step"] (defScope sReaderPosition) := ⟨rfl, rfl, rfl, by decide +kernel, rfl, by decide +kernel, by decide +kernel⟩
abbrev sPathBlockers : Stmt := topS 39
theorem scPathBlockers : FnScope ["log", "start", "path", "found", "step", "stop", "between", "entry"] ["log", "start", "path"] (defScope sPathBlockers) := ⟨rfl, rfl, rfl, by decide +kernel, rfl, by decide +kernel, by decide +kernel⟩
theorem mtIndexP {X : Cx} (K : PySem.W.Frag) (h : X.K = K := by rfl) : MtR X "list.index" (rIndex K) := by
  rw [← h]; exact mt_index
/-- where the next step's reader stands -/
def readerP (es : List Ent) (i : Nat) : PyData → Option Nat
  | .tuple [r, c] => (match posD es r with
    | some k => if i < k ∧ edgeD es i k c = true then some k else none
    | none => none)
  | _ => none
def natO : Option Nat → V
  | some k => .int (k : Nat)
  | none => .non
theorem readerP_not {es : List Ent} {i : Nat} {d : PyData} (h : isD "tuple" d = false) : readerP es i d = none := by
  cases d with
  | tuple ds => simp [isD, tyN] at h
  | _ => rfl
theorem readerP_len {es : List Ent} {i : Nat} : ∀ {ds : List PyData}, ds.length ≠ 2 → readerP es i (.tuple ds) = none
  | [], _ => rfl
  | [_], _ => rfl
  | [_, _], h => absurd rfl h
  | _ :: _ :: _ :: _, _ => rfl
def idsE (es : List Ent) : List Str := es.map Ent.id ++ ([""] : List Str)
theorem ids_pos {es : List Ent} (ok : LogOk es) {m : Nat} {z : Str} : (idsE es)[m]? = some z ↔ posS es z = some m := by
  constructor
  · intro h
    rcases Nat.lt_or_ge m es.length with hm | hm
    · unfold idsE at h
      rw [List.getElem?_append_left (by rw [List.length_map]; exact hm), List.getElem?_map, List.getElem?_eq_getElem hm] at h
      obtain rfl := Option.some.inj h
      exact posS_of ok.nd (List.getElem?_eq_getElem hm) (id_ne (ok.ok _ (List.getElem_mem hm)))
    · unfold idsE at h
      rw [List.getElem?_append_right (by rw [List.length_map]; exact hm), List.length_map] at h
      cases hk : m - es.length with
      | zero =>
        rw [hk] at h
        obtain rfl : ("" : Str) = z := Option.some.inj h
        unfold posS
        rw [if_pos rfl]
        congr 1
        omega
      | succ n => rw [hk] at h; cases h
  · intro h
    unfold posS at h
    unfold idsE
    by_cases hz : z = ""
    · rw [if_pos hz] at h
      obtain rfl := Option.some.inj h
      rw [List.getElem?_append_right (by rw [List.length_map]; exact Nat.le_refl _), List.length_map, Nat.sub_self, hz]
      rfl
    · rw [if_neg hz] at h
      obtain ⟨i, e, h1, h2, h3⟩ := posG_is h
      obtain rfl : m = i := by omega
      rw [List.getElem?_append_left (by rw [List.length_map]; exact (List.getElem?_eq_some_iff.mp h2).1), List.getElem?_map, h2, ← h3]
      rfl
theorem ids_any {es : List Ent} (ok : LogOk es) {i : Nat} {r : PyData} : (((idsE es).drop (i + 1)).any fun z => strD z r) = true ↔ ∃ k, posD es r = some k ∧ i < k := by
  rw [List.any_eq_true]
  constructor
  · rintro ⟨z, hz, hs⟩
    obtain rfl := strD_iff.mp hs
    obtain ⟨n, hn⟩ := List.getElem?_of_mem hz
    rw [List.getElem?_drop] at hn
    exact ⟨i + 1 + n, (ids_pos ok).mp hn, by omega⟩
  · rintro ⟨k, hk, hi⟩
    cases r with
    | str z =>
      refine ⟨z, ?_, strD_iff.mpr rfl⟩
      refine List.mem_of_getElem? (i := k - (i + 1)) ?_
      rw [List.getElem?_drop, show i + 1 + (k - (i + 1)) = k by omega]
      exact (ids_pos ok).mpr hk
    | _ => cases hk
def spReader : Sp := fun vs H Q _ => ∃ (v u : V) (es : List Ent) (d : PyData) (ex : List Addr) (i : Nat), vs = [v, .int (i : Nat), u] ∧ Rp ex H (logD es) v ∧ LogOk es ∧ es.length ≤ 60 ∧ Rp ex H d u ∧ Live ex H ∧ ∀ H', Kp [] H H' → Q (natO (readerP es i d)) H'
section
variable {P : Program} {w : World} {K : PySem.W.Frag} {mg : Str → Option Value} {base : Heap}
theorem ok_reader (DReaderPosition : Fn K mg "reader_position" sReaderPosition ["log", "start", "step"]) (DIsEdge : Fn K mg "is_edge" sIsEdge ["log", "start", "stop", "cell"]) (b_isinstance : mg "isinstance" = none) (b_tuple : mg "tuple" = none) (b_len : mg "len" = none) (gID : ∃ u, mg "ID" = some u ∧ L2.RelV (.int 1) u) (gEND : ∃ u, mg "END" = some u ∧ L2.RelV (.str "") u)
    (GIsEdge : FnOk P w K mg base CX0 4 DIsEdge.f DIsEdge.fd ["log", "start", "stop", "cell"] spEdge) : FnOk P w K mg base CX0 5 DReaderPosition.f DReaderPosition.fd ["log", "start", "step"] spReader := by
  refine DReaderPosition.F.ok scReaderPosition (fun vs H Q E h => ?_) (fun cdv A outer s H vs Q E hr h => ?_)
  · obtain ⟨v, u, es, d, ex, i, rfl, _⟩ := h
    rfl
  obtain ⟨v, u, es, d, ex, i, rfl, rv, ok, h60, rd, lv, q⟩ := h
  have line : (10000 : Nat) < sizeLine := by decide
  refine ⟨_, pss_cons (ps_if (PW.pt (pw_or (pt_not (pt_val (pe_callB (cr_isD (T := "tuple") (by decide)) (by rfl) b_isinstance (by decide +kernel) (pa_cons (pv 2) (pa_cons (pe_bltn (v := .ty "tuple") rfl b_tuple (by rfl) rfl) pa_nil))))) (pw_or1 (pt_cmpR op_ne (pe_callB (lenE K) (by rfl) b_len (by decide +kernel) (pa_cons (pv 2) pa_nil)) pe_int (nomark _)))))
      (pss_one (ps_ret pe_non))
      pss_nil)
      (pss_cons (ps_asg (pv 2) (pg_tupE K (by rfl) (pgs_cons (pg_name (i := 5) scReaderPosition.nd rfl (.inl rfl)) (pgs_cons (pg_name (i := 6) scReaderPosition.nd rfl (.inl rfl)) pgs_nil))))
      (pss_cons (ps_set (i := 3) scReaderPosition.nd rfl (.inl rfl) (pe_op op_cat (pe_lc (own := [("entry", 7)]) (g := gName 7) (tt := tYes) (by rfl) scReaderPosition.nd (piTupE K (pv 0)) (blkOk_by (N := ["log", "start", "step", "ids", "stop", "reader", "cell", "entry"]) (sc := defScope sReaderPosition) (by decide +kernel)) (fun _ _ _ _ _ => (pg_name (i := 7) scReaderPosition.nd rfl (.inl rfl))) (fun _ _ _ _ _ => pts_nil) (fun _ _ _ _ _ => (pe_ix (ixtE K) (pv 7) (pe_gc (v := .int 1) rfl gID) (fun _ _ => rfl)))) (pe_lst (pa_cons (pe_gc (v := .str "") rfl gEND) pa_nil))))
      (pss_cons (ps_if (pt_cmpR (op_notInSD K hr.units) (pv 5) (pe_slice (sllE K) (pv 3) (po_some (pe_op op_add (pv 1) pe_int)) po_none) (by rfl))
      (pss_one (ps_ret pe_non))
      pss_nil)
      (pss_cons (ps_set (i := 4) scReaderPosition.nd rfl (.inl rfl) (bmE K PySem.F.plainAttrs_list PySem.F.slot_list_index PySem.F.type_list_index (mtIndexP K) (pv 3) (pa_cons (pv 5) pa_nil)))
      (pss_one (ps_ret (pe_ifExp (pt_val (pe_fn DIsEdge GIsEdge hr (pa_cons (pv 0) (pa_cons (pv 1) (pa_cons (pv 4) (pa_cons (pv 6) pa_nil)))))) (pv 4) pe_non))))))), ?_⟩
  refine ⟨_, rfl, u, d, ex, rfl, rd, _, rfl, ?_⟩
  cases ht : isD "tuple" d with
  | false =>
    refine iteT (iteT ?_)
    have := q H Kp.refl
    rw [readerP_not ht] at this
    exact this
  | true =>
  cases d with
  | tuple ds =>
    obtain ⟨t, us, rfl, nt, hut, hus⟩ := id rd
    refine iteF ⟨_, rfl, t, us, rfl, .inr (.inl (.inl hut)), rfl, _, rfl, ?_⟩
    have hlen := hus.length
    by_cases h2 : ds.length = 2
    case neg =>
      rw [decide_eq_false (show ¬ V.int (us.length : Nat) = V.int 2 from fun h => by have := V.int.inj h; omega)]
      refine iteT ?_
      have := q H Kp.refl
      rw [readerP_len h2] at this
      exact this
    match ds, us, h2, hus with
    | [r, c], _, _, ⟨x, _, rfl, rx, y, _, rfl, ry, rfl⟩ =>
    rw [show (!decide (V.int (([x, y] : List V).length : Nat) = V.int 2)) = false from rfl]
    refine iteF ⟨_, rfl, t, _, rfl, .inl (.inl hut), rfl, _, _, rfl, _, _, rfl, rfl, ?_⟩
    obtain ⟨a, xs, rfl, na, ha, hx⟩ := id rv
    have hxl : xs.length ≤ 60 := by rw [← hx.length, List.length_map]; exact h60
    -- the ids
    refine ⟨_, rfl, a, rfl, ⟨_, .inl (.inl ha)⟩, fun C nC => ?_⟩
    refine lc_ents (J := Itt K a) (gs := es) (ex := ex) (fun e => .str e.id) (fun _ => true) (walks_tup ha nC) nC hx (by omega) (fun e x H2 Q2 hm k2 r2 q2 => q2 H2 Kp.refl) (fun e x H2 Q2 hm hp k2 r2 q2 => ?_) (fun Hn zs kn en rn => ?_) fun x => wipe_one _ _ _
    · obtain ⟨d1', ed1, hd1, _⟩ := ent_reads e
      exact ⟨_, rfl, c_of (ent_ix r2 ed1 hd1 rfl fun vi ri => q2 vi H2 Kp.refl ri)⟩
    have ez : zs = (es.map Ent.id).map V.str := by
      have h1 : es.filter (fun _ => true) = es := by simp
      rw [h1] at rn
      have h2 : es.map (fun e => PyData.str e.id) = (es.map Ent.id).map PyData.str := by rw [List.map_map]; rfl
      rw [h2] at rn
      exact strs_of rn
    rw [ez] at en
    have kn' : Kp [] H Hn := Kp.drop kn nC
    refine ⟨by show 1 ≤ sizeLine; omega, fun l1 nl1 => ?_⟩
    have k2 : Kp [] Hn (upd Hn l1 (.lst [V.str ""])) := Kp.laid nl1
    have e2 : (upd Hn l1 (.lst [V.str ""])) l1 = some (.lst [V.str ""]) := upd_same
    generalize upd Hn l1 (.lst [V.str ""]) = H2 at k2 e2 ⊢
    have nml : ((es.map Ent.id).map V.str).length ≤ 60 := by rw [List.length_map, List.length_map]; exact h60
    refine ⟨C, l1, _, _, rfl, rfl, k2 _ _ (by simp) en, e2, by show _ + 1 ≤ sizeLine; omega, fun IP nIP => ?_⟩
    have k3 : Kp [] H2 (upd H2 IP (.lst ((es.map Ent.id).map V.str ++ [V.str ""]))) := Kp.laid nIP
    have hI : (upd H2 IP (.lst ((es.map Ent.id).map V.str ++ [V.str ""]))) IP = some (.lst ((idsE es).map V.str)) := by rw [upd_same]; unfold idsE; rw [List.map_append]; rfl
    generalize upd H2 IP (.lst ((es.map Ent.id).map V.str ++ [V.str ""])) = H3 at k3 hI ⊢
    have kH3 : Kp [] H H3 := kn'.trans (k2.trans k3)
    -- the reader
    refine ⟨_, rfl, _, rfl, _, rfl, (i : Int), 1, rfl, rfl, _, rfl, no_part ⟨IP, _, rfl, SqL.of hI, fun S nS => ?_⟩⟩
    have k4 : Kp [] H3 (upd H3 S (.lst (cutV ((idsE es).map V.str) (some ((i : Int) + 1)) none))) := Kp.laid nS
    have hS : (upd H3 S (.lst (cutV ((idsE es).map V.str) (some ((i : Int) + 1)) none))) S = some (.lst (((idsE es).drop (i + 1)).map V.str)) := by rw [upd_same, cut_after, List.map_drop]
    generalize upd H3 S (.lst (cutV ((idsE es).map V.str) (some ((i : Int) + 1)) none)) = H4 at k4 hS ⊢
    have kH4 := kH3.trans k4
    refine ⟨r, ex, (idsE es).drop (i + 1), S, Rp.keep (kH4.mono (by simp)) _ _ rx, rfl, .inl (SqL.of hS), _, rfl, ?_⟩
    cases hany : ((idsE es).drop (i + 1)).any fun z => strD z r with
    | false =>
      refine iteT ?_
      have := q H4 kH4
      have e : readerP es i (.tuple [r, c]) = none := by
        show (match posD es r with | some k => _ | none => none) = none
        cases hp : posD es r with
        | none => rfl
        | some k =>
          dsimp only
          rw [if_neg]
          rintro ⟨hik, _⟩
          have := (ids_any ok (i := i) (r := r)).mpr ⟨k, hp, hik⟩
          rw [hany] at this
          cases this
      rw [e] at this
      exact this
    | true =>
      obtain ⟨k, hk, hik⟩ := (ids_any ok (i := i) (r := r)).mp hany
      cases r with
      | str z =>
        obtain rfl : x = .str z := rx
        have hk : posS es z = some k := hk
        have kle := posS_le hk
        have hI4 := k4 _ _ (by simp) hI
        have eR : readerP es i (.tuple [.str z, c]) = if i < k ∧ edgeD es i k c = true then some k else none := by
          show (match posS es z with | some k => _ | none => none) = _
          rw [hk]
        refine iteF ⟨_, rfl, .inl ⟨rfl, _, SqL.of hI4⟩, _, rfl, IP, _, V.str z, k, V.str z, rfl, rfl, SqL.of hI4, rfl, ?_, ?_, ?_, fun m z' hm hz' => ?_, ?_⟩
        · rw [List.all_map]
          exact List.all_eq_true.mpr fun x _ => rfl
        · rw [List.getElem?_map, (ids_pos ok).mpr hk]
          rfl
        · show (z == z) = true
          exact beq_self_eq_true z
        · rw [List.getElem?_map] at hz'
          cases hm' : (idsE es)[m]? with
          | none => rw [hm'] at hz'; cases hz'
          | some z2 =>
            rw [hm'] at hz'
            obtain rfl : V.str z2 = z' := Option.some.inj hz'
            show (z2 == z) = false
            rw [beq_eq_false_iff_ne]
            intro hzz
            subst hzz
            have := (ids_pos ok).mp hm'
            rw [hk] at this
            have := Option.some.inj this
            omega
        · refine ⟨_, rfl, _, rfl, _, rfl, _, rfl, .ref a, y, es, c, ex, i, k, rfl, Rp.keep (kH4.mono (by simp)) _ _ rv, ok.ok, Rp.keep (kH4.mono (by simp)) _ _ ry, by omega, kle, fun H5 k5 => ⟨_, rfl, ?_⟩⟩
          have := q H5 (kH4.trans k5)
          cases hE : edgeD es i k c with
          | false =>
            rw [eR, if_neg (by rintro ⟨_, h⟩; rw [hE] at h; cases h)] at this
            exact iteF this
          | true =>
            rw [eR, if_pos ⟨hik, hE⟩] at this
            exact iteT ⟨_, rfl, this⟩
      | _ => cases hk
  | _ => simp [isD, tyN] at ht
end
end NV
/-! PthY -/
set_option Elab.async false
set_option linter.all false
set_option maxRecDepth 100000
set_option maxHeartbeats 1000000
/-! the package's path_blockers, asked of anything -/
namespace NV
open PySem PySem.Spec PyProof.Rows L2
open C8 (pss_cut pe_gc)
def cellOf : PyData → Str
  | .tuple [_, .str c] => c
  | _ => ""
def stepP (es : List Ent) : Option (Nat × List Ent) → PyData → Option (Nat × List Ent)
  | none, _ => none
  | some (i, l), d => (match readerP es i d with
    | none => none
    | some k => if ((betw es i k (cellOf d)).any fun e => e.pr.isNone) = true then none else some (k, l ++ betw es i k (cellOf d)))
def blkrsP (es : List Ent) (i : Nat) : PyData → Option (List Ent)
  | .tuple ds => (match ds.foldl (stepP es) (some (i, [])) with
    | some (k, l) => if writeAt es k = true then none else some l
    | none => none)
  | _ => none
theorem fold_none (es : List Ent) : ∀ ds : List PyData, ds.foldl (stepP es) none = none
  | [] => rfl
  | _ :: ds => fold_none es ds
theorem fold_at {es : List Ent} {ds : List PyData} {i j : Nat} {d : PyData} (h : ds[j]? = some d) : ds.foldl (stepP es) (some (i, [])) = (ds.drop (j + 1)).foldl (stepP es) (stepP es ((ds.take j).foldl (stepP es) (some (i, []))) d) := by
  have e : ds = ds.take j ++ d :: ds.drop (j + 1) := by
    conv => lhs; rw [← List.take_append_drop j ds]
    congr 1
    rw [List.drop_eq_getElem_cons (List.getElem?_eq_some_iff.mp h).1, (List.getElem?_eq_some_iff.mp h).2]
  conv => lhs; rw [e]
  rw [List.foldl_append, List.foldl_cons]
theorem fold_next {es : List Ent} {ds : List PyData} {i j : Nat} {d : PyData} (h : ds[j]? = some d) : (ds.take (j + 1)).foldl (stepP es) (some (i, [])) = stepP es ((ds.take j).foldl (stepP es) (some (i, []))) d := by
  rw [List.take_add_one, h, List.foldl_append]
  rfl
theorem reader_tup {es : List Ent} {i k : Nat} {d : PyData} (h : readerP es i d = some k) : ∃ r c, d = .tuple [r, .str c] ∧ i < k ∧ k ≤ es.length := by
  cases d with
  | tuple ds =>
    match ds, h with
    | [], h => cases h
    | [_], h => cases h
    | _ :: _ :: _ :: _, h => cases h
    | [r, c], h =>
      have h : (match posD es r with | some k => if i < k ∧ edgeD es i k c = true then some k else none | none => none) = some k := h
      cases hp : posD es r with
      | none => rw [hp] at h; cases h
      | some m =>
        rw [hp] at h
        dsimp only at h
        by_cases hc : i < m ∧ edgeD es i m c = true
        · rw [if_pos hc] at h
          obtain rfl := Option.some.inj h
          obtain ⟨h1, h2⟩ := hc
          cases c with
          | str c => exact ⟨r, c, rfl, h1, posD_le hp⟩
          | _ => cases h2
        · rw [if_neg hc] at h; cases h
  | _ => cases h
def prW : Option Int → V
  | none => .non
  | some i => .int i
theorem prs_of {ex : List Addr} {H : Hp} : ∀ {l : List Ent} {ys : List V}, RpAll ex H (l.map fun e => prD e.pr) ys → ys = l.map fun e => prW e.pr
  | [], ys, h => h
  | e :: l, ys, h => by
    obtain ⟨y, ys, rfl, ry, rest⟩ := h
    dsimp only at ry
    rw [prs_of rest, List.map_cons]
    congr 1
    cases hp : e.pr with
    | none => rw [hp] at ry; exact ry
    | some i => rw [hp] at ry; exact ry
theorem in_prs {l : List Ent} : (l.map fun e => prW e.pr).all flatV = true ∧ inV .non (l.map fun e => prW e.pr) = l.any fun e => e.pr.isNone := by
  constructor
  · rw [List.all_map]
    exact List.all_eq_true.mpr fun e _ => by
      show flatV (prW e.pr) = true
      cases e.pr <;> rfl
  · unfold inV
    rw [List.any_map]
    congr 1
    funext e
    show eqV (prW e.pr) .non = e.pr.isNone
    cases e.pr <;> rfl
theorem betw_w {es : List Ent} {i k : Nat} {c : Str} {e : Ent} (h : e ∈ betw es i k c) : e.isW = true ∧ e ∈ es := by
  obtain ⟨h1, h2⟩ := List.mem_filter.mp h
  refine ⟨?_, List.mem_of_mem_drop (List.mem_of_mem_take h1)⟩
  have h2 : c ∈ e.ws := of_decide_eq_true h2
  cases e with
  | wr _ _ _ _ => rfl
  | qu _ _ => cases h2
theorem betw_len {es : List Ent} {i k : Nat} {c : Str} : (betw es i k c).length ≤ es.length := by
  refine Nat.le_trans (List.length_filter_le _ _) ?_
  rw [List.length_take, List.length_drop]
  omega
def spBlkrs : Sp := fun vs H Q _ => ∃ (v u : V) (es : List Ent) (d : PyData) (ex : List Addr) (i : Nat), vs = [v, .int (i : Nat), u] ∧ Rp ex H (logD es) v ∧ LogOk es ∧ es.length ≤ 60 ∧ Rp ex H d u ∧ (∀ ds, d = .tuple ds → ds.length ≤ 1000) ∧ Live ex H ∧
  (blkrsP es i d = none → ∀ H', Kp [] H H' → Q .non H') ∧ ∀ l, blkrsP es i d = some l → ∀ p H', Kp [] H H' → H p = none → H' p = some (.lst ((l.map Ent.id).map V.str)) → Q (.ref p) H'
section
variable {P : Program} {w : World} {K : PySem.W.Frag} {mg : Str → Option Value} {base : Heap}
theorem ok_blkrs (DPathBlockers : Fn K mg "path_blockers" sPathBlockers ["log", "start", "path"]) (DReaderPosition : Fn K mg "reader_position" sReaderPosition ["log", "start", "step"]) (DBlockingWrites : Fn K mg "blocking_writes" sBlockingWrites ["log", "start", "stop", "cell"]) (DIsWriteAt : Fn K mg "is_write_at" sIsWriteAt ["log", "position"])
    (b_isinstance : mg "isinstance" = none) (b_tuple : mg "tuple" = none) (gID : ∃ u, mg "ID" = some u ∧ L2.RelV (.int 1) u) (gPRICE : ∃ u, mg "PRICE" = some u ∧ L2.RelV (.int 4) u)
    (GReaderPosition : FnOk P w K mg base CX0 5 DReaderPosition.f DReaderPosition.fd ["log", "start", "step"] spReader) (GBlockingWrites : FnOk P w K mg base CX0 2 DBlockingWrites.f DBlockingWrites.fd ["log", "start", "stop", "cell"] spBetw) (GIsWriteAt : FnOk P w K mg base CX0 1 DIsWriteAt.f DIsWriteAt.fd ["log", "position"] spWriteAt) :
    FnOk P w K mg base CX0 6 DPathBlockers.f DPathBlockers.fd ["log", "start", "path"] spBlkrs := by
  refine DPathBlockers.F.ok scPathBlockers (fun vs H Q E h => ?_) (fun cdv A outer s H vs Q E hr h => ?_)
  · obtain ⟨v, u, es, d, ex, i, rfl, _⟩ := h
    rfl
  obtain ⟨v, u, es, d, ex, i, rfl, rv, ok, h60, rd, hds, lv, no, yes⟩ := h
  have line : (100000 : Nat) < sizeLine := by decide
  refine ⟨_, pss_cons (ps_if (pt_not (pt_val (pe_callB (cr_isD (T := "tuple") (by decide)) (by rfl) b_isinstance (by decide +kernel) (pa_cons (pv 2) (pa_cons (pe_bltn (v := .ty "tuple") rfl b_tuple (by rfl) rfl) pa_nil)))))
      (pss_one (ps_ret pe_non))
      pss_nil)
      (pss_cons (ps_set (i := 3) scPathBlockers.nd rfl (.inl rfl) (pe_lst pa_nil))
      (pss_cons (ps_for PassesOwn.never rfl (piTupE K (pv 2)) (pg_name (i := 4) scPathBlockers.nd rfl (.inl rfl))
      (pss_cons (ps_set (i := 5) scPathBlockers.nd rfl (.inl rfl) (pe_fn DReaderPosition GReaderPosition hr (pa_cons (pv 0) (pa_cons (pv 1) (pa_cons (pv 4) pa_nil)))))
      (pss_cons (ps_if (pt_cmpR op_isN (pv 5) pe_non (nomark _))
      (pss_one (ps_ret pe_non))
      pss_nil)
      (pss_cons (ps_set (i := 6) scPathBlockers.nd rfl (.inl rfl) (pe_fn DBlockingWrites GBlockingWrites hr (pa_cons (pv 0) (pa_cons (pv 1) (pa_cons (pv 5) (pa_cons (pe_ix (ixtE K) (pv 4) pe_int (fun _ _ => rfl)) pa_nil))))))
      (pss_cons (ps_if (pt_cmpR (inE K) pe_non (pe_lc (own := [("entry", 7)]) (g := gName 7) (tt := tYes) (by rfl) scPathBlockers.nd (piListE K (pv 6)) (blkOk_by (N := ["log", "start", "path", "found", "step", "stop", "between", "entry"]) (sc := defScope sPathBlockers) (by decide +kernel)) (fun _ _ _ _ _ => (pg_name (i := 7) scPathBlockers.nd rfl (.inl rfl))) (fun _ _ _ _ _ => pts_nil) (fun _ _ _ _ _ => (pe_ix (ixtE K) (pv 7) (pe_gc (v := .int 4) rfl gPRICE) (fun _ _ => rfl)))) (by rfl))
      (pss_one (ps_ret pe_non))
      pss_nil)
      (pss_cons (ps_expr (bmE K PySem.F.plainAttrs_list PySem.F.slot_list_extend PySem.F.type_list_extend mt_extend (pv 3) (pa_cons (pe_lc (own := [("entry", 7)]) (g := gName 7) (tt := tYes) (by rfl) scPathBlockers.nd (piListE K (pv 6)) (blkOk_by (N := ["log", "start", "path", "found", "step", "stop", "between", "entry"]) (sc := defScope sPathBlockers) (by decide +kernel)) (fun _ _ _ _ _ => (pg_name (i := 7) scPathBlockers.nd rfl (.inl rfl))) (fun _ _ _ _ _ => pts_nil) (fun _ _ _ _ _ => (pe_ix (ixtE K) (pv 7) (pe_gc (v := .int 1) rfl gID) (fun _ _ => rfl)))) pa_nil)))
      (pss_one (ps_set (i := 1) scPathBlockers.nd rfl (.inl rfl) (pv 5)))))))))
      (pss_one (ps_ret (pe_ifExp (pt_val (pe_fn DIsWriteAt GIsWriteAt hr (pa_cons (pv 0) (pa_cons (pv 1) pa_nil)))) pe_non (pv 3)))))), ?_⟩
  refine ⟨_, rfl, u, d, ex, rfl, rd, _, rfl, ?_⟩
  cases ht : isD "tuple" d with
  | false =>
    refine iteT (no ?_ H Kp.refl)
    cases d with
    | tuple ds => simp [isD, tyN] at ht
    | _ => rfl
  | true =>
  cases d with
  | tuple ds =>
    obtain ⟨t, us, rfl, nt, hut, hus⟩ := id rd
    have hdl := hds ds rfl
    have hlen := hus.length
    refine iteF ⟨by show 0 ≤ sizeLine; omega, fun FP nFP => ?_⟩
    have kF : Kp [] H (upd H FP (.lst [])) := Kp.laid nFP
    have hF0 : (upd H FP (.lst [])) FP = some (.lst []) := upd_same
    have utF := kF _ _ (by simp) hut
    have husF : RpAll (FP :: ex) (upd H FP (.lst [])) ds us := RpAll.keep (kF.mono (by simp)) _ _ (RpAll.apart nFP _ _ hus)
    have rvF : Rp (FP :: ex) (upd H FP (.lst [])) (logD es) v := Rp.keep (kF.mono (by simp)) _ _ (Rp.apart nFP _ _ rv)
    have lvF := lv.kp0 kF
    have ntF : t ≠ FP := fun z => by rw [z, nFP] at hut; cases hut
    generalize upd H FP (.lst []) = H1 at kF hF0 utF husF rvF lvF ⊢
    have lvc : ∀ {Hx : Hp}, Kp [FP] H1 Hx → (∃ us, Hx FP = some (.lst us)) → Live (FP :: ex) Hx := fun k ⟨us, e⟩ b hb z => by
      rcases List.mem_cons.mp hb with y | y
      · rw [y, e] at z; cases z
      · have hne : b ≠ FP := fun w => by rw [w] at y; exact lv _ y nFP
        cases e2 : H1 b with
        | none => exact lvF b y e2
        | some o => rw [k b o (by simpa using hne) e2] at z; cases z
    refine ⟨_, rfl, t, rfl, ⟨_, .inl (.inl utF)⟩, for_tup (K := K) (a := t) (xs := us) (fun j σ H' => ∃ (st : Nat) (l : List Ent) (c4 c5 c6 : Option V), σ = [some v, some (.int (st : Nat)), some (.ref t), some (.ref FP), c4, c5, c6, none] ∧ (ds.take j).foldl (stepP es) (some (i, [])) = some (st, l) ∧ H' FP = some (.lst ((l.map Ent.id).map V.str)) ∧ Kp [FP] H1 H' ∧ l.length ≤ 60 * j) ⟨i, [], none, none, none, rfl, rfl, hF0, Kp.refl, by simp⟩ ?_ ?_ ?_⟩
    · rintro j σ H' _ ⟨st, l, c4, c5, c6, rfl, _, _, k, _⟩
      exact .inl (.inl (k _ _ (by simpa using ntF) utF))
    · rintro j x σ H' hx ⟨st, l, c4, c5, c6, rfl, hfold, hF, k1, ll⟩
      have hjl := (List.getElem?_eq_some_iff.mp hx).1
      obtain ⟨dj, hdj, rj⟩ := RpAll.back husF hx
      have k1' : Kp (FP :: ex) H1 H' := k1.mono (by simp)
      have rj' := Rp.keep k1' _ _ rj
      have rv' := Rp.keep k1' _ _ rvF
      refine ⟨_, rfl, _, rfl, _, rfl, v, x, es, dj, FP :: ex, st, rfl, rv', ok, h60, rj', lvc k1 ⟨_, hF⟩, fun H2 k2 => ?_⟩
      have hF2 := k2 _ _ (by simp) hF
      have k12 : Kp [FP] H1 H2 := k1.trans (k2.mono (by simp))
      have fA := fold_at (es := es) (i := i) hdj
      rw [hfold] at fA
      have back : ∀ {Hx : Hp}, Kp [FP] H1 Hx → Kp [] H Hx := fun k => Kp.drop ((kF.mono (by simp)).trans k) nFP
      refine ⟨_, rfl, rfl, _, rfl, ?_⟩
      cases hrd : readerP es st dj with
      | none =>
        rw [show decide (natO none = V.non) = true from decide_eq_true rfl]
        refine iteT (no ?_ H2 (back k12))
        have e1 : stepP es (some (st, l)) dj = none := by show (match readerP es st dj with | none => none | some k => _) = none; rw [hrd]
        rw [e1, fold_none] at fA
        show (match ds.foldl (stepP es) (some (i, [])) with | some (k, l) => _ | none => none) = none
        rw [fA]
      | some k =>
        rw [show decide (natO (some k) = V.non) = false from decide_eq_false (fun h => by cases h)]
        obtain ⟨r, c, rfl, hik, hkl⟩ := reader_tup hrd
        have eS : stepP es (some (st, l)) (.tuple [r, .str c]) = if ((betw es st k c).any fun e => e.pr.isNone) = true then none else some (k, l ++ betw es st k c) := by
          show (match readerP es st (.tuple [r, .str c]) with | none => none | some k => _) = _
          rw [hrd]
          rfl
        obtain ⟨tj, uj, rfl, ntj, htj, huj⟩ := id (Rp.keep (k2.mono (ex' := FP :: ex) (by simp)) _ _ rj')
        refine iteF ⟨_, rfl, _, rfl, _, rfl, _, rfl, ?_⟩
        refine c_of (ixD (j := 1) rfl htj huj rfl fun vc rc => ?_)
        obtain rfl : vc = .str c := rc
        refine ⟨v, es, FP :: ex, st, k, c, rfl, Rp.keep (k2.mono (by simp)) _ _ rv', h60, lvc k12 ⟨_, hF2⟩, hik, hkl, fun BP bxs H3 k3 nBP nBx hBP hbx => ?_⟩
        have hF3 := k3 _ _ (by simp) hF2
        have k13 : Kp [FP] H1 H3 := k12.trans (k3.mono (by simp))
        have hbl : bxs.length ≤ 60 := by rw [← hbx.length, List.length_map]; exact Nat.le_trans betw_len h60
        -- their prices
        refine ⟨_, rfl, BP, rfl, ⟨_, .inl (.inl hBP)⟩, fun C nC => ?_⟩
        refine lc_ents (J := Itl K BP) (gs := betw es st k c) (ex := FP :: ex) (fun e => prD e.pr) (fun _ => true) (walks_lst hBP nC) nC hbx (by omega) (fun e x H2 Q2 hm k2 r2 q2 => q2 H2 Kp.refl) (fun e x H2 Q2 hm hp k2 r2 q2 => ?_) (fun Hn zs kn en rn => ?_) fun x => wipe_one _ _ _
        · obtain ⟨d4, ed4, _, hd4⟩ := ent_writes (betw_w hm).1
          exact ⟨_, rfl, c_of (ent_ix r2 ed4 hd4 rfl fun vi ri => q2 vi H2 Kp.refl ri)⟩
        have ez : zs = (betw es st k c).map fun e => prW e.pr := by
          have h1 : (betw es st k c).filter (fun _ => true) = betw es st k c := by simp
          rw [h1] at rn
          exact prs_of rn
        rw [ez] at en
        have kn' : Kp [] H3 Hn := Kp.drop kn nC
        obtain ⟨fl, iv⟩ := in_prs (l := betw es st k c)
        refine ⟨C, _, rfl, .inl (SqL.of en), rfl, fl, _, rfl, ?_⟩
        rw [if_neg Bool.false_ne_true, iv]
        have k1n : Kp [FP] H1 Hn := k13.trans (kn'.mono (by simp))
        cases hany : (betw es st k c).any fun e => e.pr.isNone with
        | true =>
          refine iteT (no ?_ Hn (back k1n))
          rw [hany, if_pos rfl] at eS
          rw [eS, fold_none] at fA
          show (match ds.foldl (stepP es) (some (i, [])) with | some (k, l) => _ | none => none) = none
          rw [fA]
        | false =>
          rw [hany, if_neg Bool.false_ne_true] at eS
          have hBn := kn' _ _ (by simp) hBP
          have hFn := kn' _ _ (by simp) hF3
          have hbxn := RpAll.keep (kn'.mono (ex' := FP :: ex) (by simp)) _ _ hbx
          -- their ids
          refine iteF ⟨_, rfl, .inl ⟨rfl, _, SqL.of hFn⟩, _, rfl, BP, rfl, ⟨_, .inl (.inl hBn)⟩, fun C2 nC2 => ?_⟩
          refine lc_ents (J := Itl K BP) (gs := betw es st k c) (ex := FP :: ex) (fun e => .str e.id) (fun _ => true) (walks_lst hBn nC2) nC2 hbxn (by omega) (fun e x H2 Q2 hm k2 r2 q2 => q2 H2 Kp.refl) (fun e x H2 Q2 hm hp k2 r2 q2 => ?_) (fun Hm zs km em rm => ?_) fun x => wipe_one _ _ _
          · obtain ⟨d1', ed1, hd1, _⟩ := ent_reads e
            exact ⟨_, rfl, c_of (ent_ix r2 ed1 hd1 rfl fun vi ri => q2 vi H2 Kp.refl ri)⟩
          have ez2 : zs = ((betw es st k c).map Ent.id).map V.str := by
            have h1 : (betw es st k c).filter (fun _ => true) = betw es st k c := by simp
            rw [h1] at rm
            have h2 : (betw es st k c).map (fun e => PyData.str e.id) = ((betw es st k c).map Ent.id).map PyData.str := by rw [List.map_map]; rfl
            rw [h2] at rm
            exact strs_of rm
          rw [ez2] at em
          have km' : Kp [] Hn Hm := Kp.drop km nC2
          have hFm := km' _ _ (by simp) hFn
          have bl := Nat.le_trans (betw_len (es := es) (i := st) (k := k) (c := c)) h60
          have j1000 : j < 1000 := by omega
          refine ⟨FP, C2, _, _, rfl, rfl, hFm, em, by rw [List.length_map, List.length_map, List.length_map, List.length_map]; omega, ?_⟩
          refine ⟨_, rfl, k, l ++ betw es st k c, _, _, _, rfl, ?_, ?_, ?_, ?_⟩
          · rw [fold_next hdj, hfold, eS]
          · rw [upd_same, List.map_append, List.map_append]
          · exact (k1n.trans (km'.mono (by simp))).trans (Kp.put (by simp))
          · rw [List.length_append]
            omega
    · rintro σ H' ⟨st, l, c4, c5, c6, rfl, hfold, hF, k1, ll⟩
      rw [← hlen, List.take_length] at hfold
      have back : Kp [] H H' := Kp.drop ((kF.mono (by simp)).trans k1) nFP
      have rv' := Rp.keep (k1.mono (ex' := FP :: ex) (by simp)) _ _ rvF
      refine ⟨_, rfl, _, rfl, v, es, FP :: ex, st, rfl, rv', _, rfl, ?_⟩
      have eB : blkrsP es i (.tuple ds) = if writeAt es st = true then none else some l := by
        show (match ds.foldl (stepP es) (some (i, [])) with | some (k, l) => _ | none => none) = _
        rw [hfold]
      cases hw : writeAt es st with
      | true =>
        rw [hw, if_pos rfl] at eB
        exact iteT (no eB H' back)
      | false =>
        rw [hw, if_neg Bool.false_ne_true] at eB
        exact iteF ⟨_, rfl, yes l eB FP H' back nFP hF⟩
  | _ => simp [isD, tyN] at ht
end
end NV
/-! PosW -/
set_option Elab.async false
set_option linter.all false
set_option maxRecDepth 100000
set_option maxHeartbeats 1000000
/-! the package's position_in, position_of_write, asked of anything -/
namespace NV
open PySem PySem.Spec PyProof.Rows L2
open C8 (pss_cut pe_gc)
abbrev sPositionOfWrite : Stmt := topS 34
theorem scPositionOfWrite : FnScope ["log", "entry_id", "position"] ["log", "entry_id"] (defScope sPositionOfWrite) := ⟨rfl, rfl, rfl, by decide +kernel, rfl, by decide +kernel, by decide +kernel⟩
/-- a write's id -/
def writeD (es : List Ent) (d : PyData) : Option Nat := match posD es d with
  | some k => if writeAt es k = true then some k else none
  | none => none
def spWritePosX (CI : Addr) : Sp := fun vs H Q E => ∃ (v u : V) (es : List Ent) (d : PyData) (ex : List Addr), vs = [v, u] ∧ Rp ex H (logD es) v ∧ Rp ex H d u ∧
  (∀ k : Nat, writeD es d = some k → ∀ H', Kp [] H H' → Q (.int (k : Nat)) H') ∧ (writeD es d = none → ∀ dd H', Kp [] H H' → H' dd = some (.xd [("entry_id", u)]) → E (.ref CI) (some dd) H')
section
variable {P : Program} {w : World} {K : PySem.W.Frag} {mg : Str → Option Value} {base : Heap}
theorem ok_wposX (DPositionOfWrite : Fn K mg "position_of_write" sPositionOfWrite ["log", "entry_id"]) (DPositionIn : Fn K mg "position_in" sPositionIn ["log", "entry_id"]) (DIsWriteAt : Fn K mg "is_write_at" sIsWriteAt ["log", "position"]) (XI : ErrI K mg "UnknownId" "entry_id" sUnknownid) (GI : FnOk P w K mg base CX0 1 XI.fI XI.fd ["self", "entry_id"] (spInit XI.C "entry_id"))
    (XPositionIn : FnOk P w K mg base (L2.CX P w) 3 DPositionIn.f DPositionIn.fd ["log", "entry_id"] (spPosX XI.C)) (GIsWriteAt : FnOk P w K mg base CX0 1 DIsWriteAt.f DIsWriteAt.fd ["log", "position"] spWriteAt) :
    FnOk P w K mg base (L2.CX P w) 4 DPositionOfWrite.f DPositionOfWrite.fd ["log", "entry_id"] (spWritePosX XI.C) := by
  refine DPositionOfWrite.F.okX scPositionOfWrite (fun vs H Q E h => ?_) (fun cdv A outer s H vs Q E hr h => ?_)
  · obtain ⟨v, u, es, d, ex, rfl, _⟩ := h
    rfl
  obtain ⟨v, u, es, d, ex, rfl, rv, ru, yes, no⟩ := h
  refine ⟨_, pss_cons (ps_set (i := 2) scPositionOfWrite.nd rfl (.inl rfl) (pe_fx DPositionIn XPositionIn hr (takes_of rfl rfl rfl rfl) (pa_cons (pv 0) (pa_cons (pv 1) pa_nil))))
      (pss_cons (ps_if (pt_not (pt_val (pe_fn DIsWriteAt GIsWriteAt hr (pa_cons (pv 0) (pa_cons (pv 2) pa_nil)))))
      (pss_one (ps_raise rfl (takes_of rfl rfl rfl rfl) (pmk_erri GI XI.b XI.g XI.T XI.iC XI.tI hr (pv 1))))
      pss_nil)
      (pss_one (ps_ret (pv 2)))), ?_⟩
  refine ⟨_, rfl, _, rfl, v, u, es, d, ex, rfl, rv, ru, fun k hk H1 k1 => ?_, fun hn dd H' k' h' => no (by unfold writeD; rw [hn]) dd H' k' h'⟩
  refine ⟨_, rfl, _, rfl, v, es, ex, k, rfl, Rp.keep (k1.mono (by simp)) _ _ rv, _, rfl, ?_⟩
  have e : writeD es d = if writeAt es k = true then some k else none := by unfold writeD; rw [hk]
  cases hw : writeAt es k with
  | true =>
    rw [hw] at e
    exact iteF ⟨_, rfl, yes k e H1 k1⟩
  | false =>
    rw [hw] at e
    exact iteT ⟨_, rfl, fun dd H' k' h' => no e dd H' (k1.trans k') h'⟩
end
end NV
/-! PeL -/
set_option Elab.async false
set_option linter.all false
set_option maxRecDepth 100000
set_option maxHeartbeats 1000000
/-! a def that may raise, asked rightly -/
namespace NV
open PySem PySem.Spec PyProof.Rows L2
section
variable {X : Cx}
/-- a def that may raise, asked rightly -/
theorem pe_fL {nm : Str} {st : Stmt} {ps : List Str} {sp : Sp} {e : Expr} {es : List Expr} {t : TA} {p pos : Pos} {j k : Nat} (D : Fn X.K X.mg nm st ps) (G : FnOk X.prog X.w X.K X.mg X.base (L2.CX X.prog X.w) j D.f D.fd ps sp) (hr : Room k X.A) (ha : PA X (e :: es) t)
    (hk : j ≤ k := by decide) (hg : Gl X nm := by rfl) (hdb : (nm == ("__debug__" : Str)) = false := by decide) (he : starEach (e :: es) X.env = (false, eval e X.env) :: starEach es X.env := by rfl) (hpl : (backTo pos (starEach es X.env)).any (·.1) = false := by rfl) :
    PE X (.Call (.Name nm p) (e :: es) [] pos) (tCall sp [] L2.E0 t) := pe_call G (hr.mono hk) hg D.m D.F.kp D.b .nil passL ha hdb he hpl
end
end NV
/-! PthZ -/
set_option Elab.async false
set_option linter.all false
set_option maxRecDepth 100000
set_option maxHeartbeats 1000000
/-! the package's retractions_for, cheapest_path; the cheapest path's own retractions -/
namespace NV
open PySem PySem.Spec PyProof.Rows L2
open C8 (pss_cut pe_gc)
abbrev sRetractionsFor : Stmt := topS 40
theorem scRetractionsFor : FnScope ["log", "entry_id", "path", "found"] ["log", "entry_id", "path"] (defScope sRetractionsFor) := ⟨rfl, rfl, rfl, by decide +kernel, rfl, by decide +kernel, by decide +kernel⟩
theorem step_one {es : List Ent} {s j : Nat} {e : Ent} {l : List Ent} {z c : Str} (he : es[s]? = some e) (hc : c ∈ e.ws) (hp : posS es z = some j) (hs : s < j) (hr : rsAt es j c = true) (pr : Priced (blkP es (s + 1) j c)) : stepP es (some (s, l)) (stepD (z, c)) = some (j, l ++ blkP es (s + 1) j c) := by
  have e1 : edgeD es s j (.str c) = true := by
    show (decide (c ∈ wsAt es s) && rsAt es j c) = true
    unfold wsAt
    rw [he, hr, Bool.and_true]
    exact decide_eq_true hc
  have e2 : readerP es s (stepD (z, c)) = some j := by
    show (match posS es z with | some k => if s < k ∧ edgeD es s k (.str c) = true then some k else none | none => none) = some j
    rw [hp]
    exact if_pos ⟨hs, e1⟩
  show (match readerP es s (stepD (z, c)) with | none => none | some k => if ((betw es s k c).any fun e => e.pr.isNone) = true then none else some (k, l ++ betw es s k c)) = _
  rw [e2]
  dsimp only
  rw [if_neg]
  · rfl
  · intro h
    obtain ⟨u, hu, hn⟩ := List.any_eq_true.mp h
    have := pr u hu
    cases hq : u.pr with
    | none => exact this hq
    | some _ => rw [hq] at hn; cases hn
theorem path_blk {es : List Ent} (ok : LogOk es) {i : Nat} {c : Str} {k : Int} {p : Path} {bs : List Ent} (h : PathOk es i c k p bs) : ∀ (s : Nat) (e : Ent) (l : List Ent), s + 1 = i → es[s]? = some e → c ∈ e.ws → ∃ m, (p.map stepD).foldl (stepP es) (some (s, l)) = some (m, l ++ bs) ∧ writeAt es m = false := by
  have at_ : ∀ {j : Nat} {e : Ent}, es[j]? = some e → posS es e.id = some j := fun he => posS_of ok.nd he (id_ne (ok.ok _ (List.mem_of_getElem? he)))
  induction h with
  | @fin i c hi h =>
    intro s e l hs he hc
    subst hs
    refine ⟨es.length, ?_, by unfold writeAt; rw [List.getElem?_eq_none (Nat.le_refl _)]⟩
    exact step_one he hc (by unfold posS; rw [if_pos rfl]) (by omega) (by unfold rsAt; rw [List.getElem?_eq_none (Nat.le_refl _)]) h
  | @query i j e' c hij he' hw hcr h =>
    intro s e l hs he hc
    subst hs
    refine ⟨j, ?_, by unfold writeAt; rw [he']; exact hw⟩
    exact step_one he hc (at_ he') (by omega) (by unfold rsAt; rw [he']; exact decide_eq_true hcr) h
  | @read i j e' c c' k p bs hij he' hw hcr hp hc' r ih =>
    intro s e l hs he hc
    subst hs
    obtain ⟨m, hm, hwm⟩ := ih j e' (l ++ blkP es (s + 1) j c) rfl he' hc'
    refine ⟨m, ?_, hwm⟩
    show (p.map stepD).foldl (stepP es) (stepP es (some (s, l)) (stepD (e'.id, c))) = _
    rw [step_one he hc (at_ he') (by omega) (by unfold rsAt; rw [he']; exact decide_eq_true hcr) hp, hm, List.append_assoc]
/-- the cheapest path's own retractions -/
theorem way_blk {es : List Ent} (ok : LogOk es) {i : Nat} {e : Ent} {k : Int} {p : Path} (he : es[i]? = some e) (h : wayFrom (onB (es.drop (i + 1))) e.ws = some (k, p)) : ∃ c bs, c ∈ e.ws ∧ PathOk es (i + 1) c k p bs ∧ blkrsP es i (pathD p) = some bs := by
  obtain ⟨c, hc, ho⟩ := from_mem h
  have hi := (List.getElem?_eq_some_iff.mp he).1
  obtain ⟨bs, r⟩ := path_ok (es := es) (es.length - (i + 1)) (i + 1) rfl (by omega) c k p ho
  obtain ⟨m, hm, hw⟩ := path_blk ok r i e [] rfl he hc
  refine ⟨c, bs, hc, r, ?_⟩
  show (match (p.map stepD).foldl (stepP es) (some (i, [])) with | some (k, l) => if writeAt es k = true then none else some l | none => none) = some bs
  rw [hm]
  dsimp only
  rw [hw, if_neg Bool.false_ne_true, List.nil_append]
def spRetrF (CI : Addr) : Sp := fun vs H Q E => ∃ (v u1 u2 : V) (es : List Ent) (d1 d2 : PyData) (ex : List Addr), vs = [v, u1, u2] ∧ Rp ex H (logD es) v ∧ LogOk es ∧ es.length ≤ 60 ∧ Live ex H ∧ Rp ex H d1 u1 ∧ Rp ex H d2 u2 ∧ (∀ ds, d2 = .tuple ds → ds.length ≤ 1000) ∧
  (writeD es d1 = none → ∀ dd H', Kp [] H H' → H' dd = some (.xd [("entry_id", u1)]) → E (.ref CI) (some dd) H') ∧ ∀ i, writeD es d1 = some i → (blkrsP es i d2 = none → ∀ dd H', Kp [] H H' → H' dd = some (.xd [("entry_id", u2)]) → E (.ref CI) (some dd) H') ∧
    ∀ l, blkrsP es i d2 = some l → ∀ p H', Kp [] H H' → H p = none → H' p = some (.lst ((l.map Ent.id).map V.str)) → Q (.ref p) H'
section
variable {P : Program} {w : World} {K : PySem.W.Frag} {mg : Str → Option Value} {base : Heap}
theorem ok_retrF (DRetractionsFor : Fn K mg "retractions_for" sRetractionsFor ["log", "entry_id", "path"]) (DCheckLog : Fn K mg "check_log" sCheckLog ["log"]) (DPositionOfWrite : Fn K mg "position_of_write" sPositionOfWrite ["log", "entry_id"]) (DPathBlockers : Fn K mg "path_blockers" sPathBlockers ["log", "start", "path"])
    (XI : ErrI K mg "UnknownId" "entry_id" sUnknownid) (GI : FnOk P w K mg base CX0 1 XI.fI XI.fd ["self", "entry_id"] (spInit XI.C "entry_id")) (GCheckLog : FnOk P w K mg base CX0 7 DCheckLog.f DCheckLog.fd ["log"] spCheck) (XPositionOfWrite : FnOk P w K mg base (L2.CX P w) 4 DPositionOfWrite.f DPositionOfWrite.fd ["log", "entry_id"] (spWritePosX XI.C))
    (GPathBlockers : FnOk P w K mg base CX0 6 DPathBlockers.f DPathBlockers.fd ["log", "start", "path"] spBlkrs) :
    FnOk P w K mg base (L2.CX P w) 8 DRetractionsFor.f DRetractionsFor.fd ["log", "entry_id", "path"] (spRetrF XI.C) := by
  refine DRetractionsFor.F.okX scRetractionsFor (fun vs H Q E h => ?_) (fun cdv A outer s H vs Q E hr h => ?_)
  · obtain ⟨v, u1, u2, es, d1, d2, ex, rfl, _⟩ := h
    rfl
  obtain ⟨v, u1, u2, es, d1, d2, ex, rfl, rv, ok, h60, lv, r1, r2, hds, no, yes⟩ := h
  refine ⟨_, pss_cons (ps_expr (pe_fn DCheckLog GCheckLog hr (pa_cons (pv 0) pa_nil)))
      (pss_cons (ps_set (i := 3) scRetractionsFor.nd rfl (.inl rfl) (pe_fn DPathBlockers GPathBlockers hr (pa_cons (pv 0) (pa_cons (pe_fx DPositionOfWrite XPositionOfWrite hr (takes_of rfl rfl rfl rfl) (pa_cons (pv 0) (pa_cons (pv 1) pa_nil))) (pa_cons (pv 2) pa_nil)))))
      (pss_cons (ps_if (pt_cmpR op_isN (pv 3) pe_non (nomark _))
      (pss_one (ps_raise rfl (takes_of rfl rfl rfl rfl) (pmk_erri GI XI.b XI.g XI.T XI.iC XI.tI hr (pv 2))))
      pss_nil)
      (pss_one (ps_ret (pv 3))))), ?_⟩
  refine ⟨_, rfl, v, es, ex, rfl, rv, ok, h60, fun H1 k1 => ?_⟩
  have up : ∀ {Hx : Hp} {d : PyData} {u : V}, Kp [] H Hx → Rp ex H d u → Rp ex Hx d u := fun k r => Rp.keep (k.mono (by simp)) _ _ r
  refine ⟨_, rfl, _, rfl, _, rfl, v, u1, es, d1, ex, rfl, up k1 rv, up k1 r1, fun i hi H2 k2 => ?_, fun hn dd H2 k2 e2 => no hn dd H2 (k1.trans k2) e2⟩
  have k12 := k1.trans k2
  obtain ⟨bad, good⟩ := yes i hi
  refine ⟨_, rfl, v, u2, es, d2, ex, i, rfl, up k12 rv, ok, h60, up k12 r2, hds, lv.kp0 k12, fun hn H3 k3 => ?_, fun l hl p H3 k3 np hp => ?_⟩
  · exact ⟨_, rfl, rfl, _, rfl, iteT ⟨_, rfl, fun dd H4 k4 e4 => bad hn dd H4 (k12.trans (k3.trans k4)) e4⟩⟩
  · refine ⟨_, rfl, rfl, _, rfl, ?_⟩
    rw [decide_eq_false (fun h => by cases h)]
    exact iteF ⟨_, rfl, good l hl p H3 (k12.trans k3) (kp_none k12 np) hp⟩
end
end NV
/-! Tri -/
set_option Elab.async false
set_option linter.all false
set_option maxRecDepth 100000
set_option maxHeartbeats 600000
/-! ways in order: the order is total; the least of many ways is one -/
namespace NV
open PySem PySem.Spec PyProof.Rows L2
structure STO {α : Type} (lt : α → α → Bool) : Prop where
  irr : ∀ a, lt a a = false
  tri : ∀ a b, lt a b = false → lt b a = false → a = b
  trans : ∀ a b c, lt a b = true → lt b c = true → lt a c = true
theorem STO.le {α : Type} {lt : α → α → Bool} (h : STO lt) {a b c : α} (h1 : lt b a = false) (h2 : lt c b = false) : lt c a = false := by
  cases h3 : lt c a with
  | false => rfl
  | true =>
    cases h4 : lt a b with
    | true => rw [h.trans _ _ _ h3 h4] at h2; exact h2
    | false => rw [h.tri a b h4 h1] at h3; rw [h3] at h2; exact h2
theorem STO.asym {α : Type} {lt : α → α → Bool} (h : STO lt) {a b : α} (h1 : lt a b = true) : lt b a = false := by
  cases h2 : lt b a with
  | false => rfl
  | true =>
    have := h.trans _ _ _ h1 h2
    rw [h.irr] at this
    cases this
theorem sto_int : STO (fun a b : Int => decide (a < b)) where
  irr a := decide_eq_false (Int.lt_irrefl a)
  tri a b h1 h2 := by
    have h1 := of_decide_eq_false h1
    have h2 := of_decide_eq_false h2
    omega
  trans a b c h1 h2 := by
    have h1 := of_decide_eq_true h1
    have h2 := of_decide_eq_true h2
    exact decide_eq_true (by omega)
theorem str_ext {a b : Str} (h : a.cps.toList = b.cps.toList) : a = b := by
  cases a with
  | mk x =>
    cases b with
    | mk y =>
      have : x = y := Array.toList_inj.mp h
      rw [this]
def strLt (a b : Str) : Bool := decide (a.cps.toList < b.cps.toList)
theorem sto_str : STO strLt where
  irr a := decide_eq_false (List.lt_irrefl _)
  tri a b h1 h2 := str_ext (List.le_antisymm (List.not_lt.mp (of_decide_eq_false h2)) (List.not_lt.mp (of_decide_eq_false h1)))
  trans a b c h1 h2 := decide_eq_true (List.lt_trans (of_decide_eq_true h1) (of_decide_eq_true h2))
def ltP {α β : Type} [DecidableEq α] (l : α → α → Bool) (m : β → β → Bool) (p q : α × β) : Bool := if p.1 = q.1 then m p.2 q.2 else l p.1 q.1
theorem STO.pair {α β : Type} [DecidableEq α] {l : α → α → Bool} {m : β → β → Bool} (hl : STO l) (hm : STO m) : STO (ltP l m) where
  irr a := by unfold ltP; rw [if_pos rfl]; exact hm.irr _
  tri a b h1 h2 := by
    unfold ltP at h1 h2
    by_cases e : a.1 = b.1
    · rw [if_pos e] at h1
      rw [if_pos e.symm] at h2
      exact Prod.ext e (hm.tri _ _ h1 h2)
    · rw [if_neg e] at h1
      rw [if_neg (fun z => e z.symm)] at h2
      exact absurd (hl.tri _ _ h1 h2) e
  trans a b c h1 h2 := by
    unfold ltP at h1 h2 ⊢
    by_cases e : a.1 = b.1
    · rw [if_pos e] at h1
      by_cases e2 : b.1 = c.1
      · rw [if_pos e2] at h2
        rw [if_pos (e.trans e2)]
        exact hm.trans _ _ _ h1 h2
      · rw [if_neg e2] at h2
        rw [if_neg (fun z => e2 (e.symm.trans z)), e]
        exact h2
    · rw [if_neg e] at h1
      by_cases e2 : b.1 = c.1
      · rw [if_neg (fun z => e (z.trans e2.symm)), ← e2]
        exact h1
      · rw [if_neg e2] at h2
        have h3 := hl.trans _ _ _ h1 h2
        rw [if_neg]
        · exact h3
        · intro z
          rw [z, hl.irr] at h3
          cases h3
def ltL {α : Type} [DecidableEq α] (l : α → α → Bool) : List α → List α → Bool
  | [], [] => false
  | [], _ :: _ => true
  | _ :: _, [] => false
  | x :: xs, y :: ys => if x = y then ltL l xs ys else l x y
theorem ltL_irr {α : Type} [DecidableEq α] {l : α → α → Bool} : ∀ a : List α, ltL l a a = false
  | [] => rfl
  | x :: xs => by unfold ltL; rw [if_pos rfl]; exact ltL_irr xs
theorem ltL_tri {α : Type} [DecidableEq α] {l : α → α → Bool} (hl : STO l) : ∀ a b : List α, ltL l a b = false → ltL l b a = false → a = b
  | [], [], _, _ => rfl
  | [], _ :: _, h, _ => by cases h
  | _ :: _, [], _, h => by cases h
  | x :: xs, y :: ys, h1, h2 => by
    unfold ltL at h1 h2
    by_cases e : x = y
    · rw [if_pos e] at h1
      rw [if_pos e.symm] at h2
      rw [e, ltL_tri hl xs ys h1 h2]
    · rw [if_neg e] at h1
      rw [if_neg (fun z => e z.symm)] at h2
      exact absurd (hl.tri _ _ h1 h2) e
theorem ltL_trans {α : Type} [DecidableEq α] {l : α → α → Bool} (hl : STO l) : ∀ a b c : List α, ltL l a b = true → ltL l b c = true → ltL l a c = true
  | [], [], _, h, _ => by cases h
  | [], _ :: _, [], _, h => by cases h
  | [], _ :: _, _ :: _, _, _ => rfl
  | _ :: _, [], _, h, _ => by cases h
  | _ :: _, _ :: _, [], _, h => by cases h
  | x :: xs, y :: ys, z :: zs, h1, h2 => by
    unfold ltL at h1 h2 ⊢
    by_cases e : x = y
    · rw [if_pos e] at h1
      by_cases e2 : y = z
      · rw [if_pos e2] at h2
        rw [if_pos (e.trans e2)]
        exact ltL_trans hl _ _ _ h1 h2
      · rw [if_neg e2] at h2
        rw [if_neg (fun t => e2 (e.symm.trans t)), e]
        exact h2
    · rw [if_neg e] at h1
      by_cases e2 : y = z
      · rw [if_neg (fun t => e (t.trans e2.symm)), ← e2]
        exact h1
      · rw [if_neg e2] at h2
        have h3 := hl.trans _ _ _ h1 h2
        rw [if_neg]
        · exact h3
        · intro t
          rw [t, hl.irr] at h3
          cases h3
theorem STO.list {α : Type} [DecidableEq α] {l : α → α → Bool} (hl : STO l) : STO (ltL l) := ⟨ltL_irr, ltL_tri hl, ltL_trans hl⟩
def wLt : Int × Path → Int × Path → Bool := ltP (fun a b : Int => decide (a < b)) (ltL (ltP strLt strLt))
theorem sto_way : STO wLt := sto_int.pair (sto_str.pair sto_str).list
theorem ltL_eq : ∀ p q : Path, PySem.W.listLt p q = ltL (ltP strLt strLt) p q
  | [], [] => rfl
  | [], _ :: _ => rfl
  | _ :: _, [] => rfl
  | x :: xs, y :: ys => by
    unfold PySem.W.listLt ltL
    rw [ltL_eq xs ys]
    rfl
theorem wayLt_eq (x y : Int × Path) : wayLt x y = wLt x y := by
  have h := PySem.W.DatumOrd.lt_eq (α := Int × PySem.W.Tup (Str × Str)) (x.1, ⟨x.2⟩) (y.1, ⟨y.2⟩)
  have e : ∀ z : Int × Path, PySem.W.Datum.toD (α := Int × PySem.W.Tup (Str × Str)) (z.1, ⟨z.2⟩) = someD z := fun z => rfl
  rw [e, e] at h
  unfold wayLt
  rw [h]
  show (if x.1 = y.1 then PySem.W.listLt x.2 y.2 else decide (x.1 < y.1)) = _
  rw [ltL_eq]
  rfl
/-- a further step ahead keeps the order -/
theorem wLt_step (s : Str × Str) (a b : Int) (p q : Path) (n : Int) : wLt (n + a, s :: p) (n + b, s :: q) = wLt (a, p) (b, q) := by
  unfold wLt ltP
  dsimp only
  by_cases e : a = b
  · rw [if_pos e, if_pos (by rw [e]), ltL, if_pos rfl]
  · rw [if_neg e, if_neg (by omega)]
    exact decide_eq_decide.mpr (by omega)
theorem wLt_add (a b : Int) (p q : Path) (n : Int) : wLt (a + n, p) (b + n, q) = wLt (a, p) (b, q) := by
  unfold wLt ltP
  dsimp only
  by_cases e : a = b
  · rw [if_pos e, if_pos (by rw [e])]
  · rw [if_neg e, if_neg (by omega)]
    exact decide_eq_decide.mpr (by omega)
/-! ### the least -/
/-- w is the least of S; none where there is none -/
def Least (S : Int × Path → Prop) : Way → Prop
  | none => ∀ x, ¬ S x
  | some m => S m ∧ ∀ x, S x → wLt x m = false
theorem Least.one {S : Int × Path → Prop} {w v : Way} (h : Least S w) (g : Least S v) : w = v := by
  match w, v, h, g with
  | none, none, _, _ => rfl
  | none, some y, h, g => exact absurd g.1 (h y)
  | some x, none, h, g => exact absurd h.1 (g x)
  | some x, some y, h, g => rw [sto_way.tri x y (g.2 x h.1) (h.2 y g.1)]
theorem Least.same {S T : Int × Path → Prop} {w : Way} (h : Least S w) (e : ∀ x, S x ↔ T x) : Least T w := by
  match w, h with
  | none, h => exact fun x hx => h x ((e x).mpr hx)
  | some m, h => exact ⟨(e m).mp h.1, fun x hx => h.2 x ((e x).mpr hx)⟩
/-- fewer, but each as good as one of the others -/
theorem Least.few {S T : Int × Path → Prop} {w : Way} (h : Least S w) (sub : ∀ x, S x → T x) (good : ∀ x, T x → ∃ y, S y ∧ wLt x y = false) : Least T w := by
  match w, h with
  | none, h => exact fun x hx => (good x hx).elim fun y hy => h y hy.1
  | some m, h =>
    refine ⟨sub m h.1, fun x hx => ?_⟩
    obtain ⟨y, hy, hxy⟩ := good x hx
    exact sto_way.le (h.2 y hy) hxy
theorem least_better {S : Int × Path → Prop} {w : Way} (x : Int × Path) (h : Least S w) : Least (fun y => y = x ∨ S y) (better x w) := by
  match w, h with
  | none, h =>
    refine ⟨.inl rfl, fun y hy => ?_⟩
    rcases hy with rfl | hy
    · exact sto_way.irr _
    · exact absurd hy (h y)
  | some m, h =>
    show Least _ (if wayLt x m = true then some x else some m)
    rw [wayLt_eq]
    cases hl : wLt x m with
    | true =>
      refine ⟨.inl rfl, fun y hy => ?_⟩
      rcases hy with rfl | hy
      · exact sto_way.irr _
      · exact sto_way.le (sto_way.asym hl) (h.2 y hy)
    | false =>
      refine ⟨.inr h.1, fun y hy => ?_⟩
      rcases hy with rfl | hy
      · exact hl
      · exact h.2 y hy
theorem least_fold : ∀ (ys : List (Int × Path)) (y : Int × Path), Least (· ∈ y :: ys) (some (ys.foldl (fun a y => if wayLt y a then y else a) y))
  | [], y => ⟨List.mem_singleton.mpr rfl, fun x hx => by rw [List.mem_singleton.mp hx]; exact sto_way.irr _⟩
  | z :: ys, y => by
    rw [List.foldl_cons]
    have ih := least_fold ys (if wayLt z y = true then z else y)
    refine ih.few (fun x hx => ?_) fun x hx => ?_
    · rcases List.mem_cons.mp hx with rfl | hx
      · split <;> simp
      · exact List.mem_cons_of_mem _ (List.mem_cons_of_mem _ hx)
    · rcases List.mem_cons.mp hx with rfl | hx
      · refine ⟨_, List.mem_cons_self, ?_⟩
        rw [wayLt_eq]
        cases hl : wLt z x with
        | true => rw [if_pos rfl]; exact sto_way.asym hl
        | false => rw [if_neg Bool.false_ne_true]; exact sto_way.irr _
      · rcases List.mem_cons.mp hx with rfl | hx
        · refine ⟨_, List.mem_cons_self, ?_⟩
          rw [wayLt_eq]
          cases hl : wLt x y with
          | true => rw [if_pos rfl]; exact sto_way.irr _
          | false => rw [if_neg Bool.false_ne_true]; exact hl
        · exact ⟨x, List.mem_cons_of_mem _ hx, sto_way.irr _⟩
theorem least_min (l : List (Int × Path)) : Least (· ∈ l) (minW l) := by
  cases l with
  | nil => exact fun x hx => by cases hx
  | cons y ys => exact least_fold ys y
theorem least_from {S : Str → Int × Path → Prop} {o : Str → Way} (h : ∀ c, Least (S c) (o c)) (cs : List Str) : Least (fun x => ∃ c ∈ cs, S c x) (wayFrom o cs) := by
  refine (least_min (cs.filterMap o)).few (fun x hx => ?_) fun x ⟨c, hc, hx⟩ => ?_
  · obtain ⟨c, hc, ho⟩ := List.mem_filterMap.mp hx
    have := h c
    rw [ho] at this
    exact ⟨c, hc, this.1⟩
  · have := h c
    cases ho : o c with
    | none => rw [ho] at this; exact absurd hx (this x)
    | some m => rw [ho] at this; exact ⟨m, List.mem_filterMap.mpr ⟨c, hc, ho⟩, this.2 x hx⟩
end NV
/-! Lst -/
set_option Elab.async false
set_option linter.all false
set_option maxRecDepth 100000
set_option maxHeartbeats 600000
/-! the pass from the end finds the least of all paths -/
namespace NV
open PySem PySem.Spec PyProof.Rows L2
/-- what a path from i on by the cell c can be -/
def onPs (es : List Ent) (i : Nat) (c : Str) : Int × Path → Prop := fun x => ∃ bs, PathOk es i c x.1 x.2 bs
theorem least_past {S : Int × Path → Prop} {w : Way} (pr : Option Int) (h : Least S w) : Least (fun x => ∃ a k', pr = some a ∧ x.1 = k' + a ∧ S (k', x.2)) (past pr w) := by
  match w, pr, h with
  | none, none, h => exact fun x ⟨a, k', e, _⟩ => by cases e
  | none, some i, h => exact fun x ⟨a, k', _, _, hx⟩ => h _ hx
  | some (k, p), none, h => exact fun x ⟨a, k', e, _⟩ => by cases e
  | some (k, p), some i, h =>
    refine ⟨⟨i, k, rfl, rfl, h.1⟩, fun x ⟨a, k', e, hx, hs⟩ => ?_⟩
    cases e
    have := h.2 _ hs
    obtain ⟨x1, x2⟩ := x
    have hx : x1 = k' + i := hx
    subst hx
    rw [wLt_add]
    exact this
theorem least_readers {S T : Int × Path → Prop} {way : Way} {u : Str → Way} (e : Ent) (c : Str) (hw : Least T way) (ho : Least S (u c)) : Least (fun x => S x ∨ (c ∈ e.rs ∧ ∃ p', T (x.1, p') ∧ x.2 = (e.id, c) :: p')) (readers e way u c) := by
  unfold readers
  by_cases hc : c ∈ e.rs
  · rw [if_pos hc]
    match way, hw with
    | none, hw => exact ho.same fun x => ⟨.inl, fun h => h.elim id fun ⟨_, p', hp, _⟩ => absurd hp (hw _)⟩
    | some (k, p), hw =>
      refine (least_better (k, (e.id, c) :: p) ho).few (fun x hx => ?_) fun x hx => ?_
      · rcases hx with rfl | hx
        · exact .inr ⟨hc, p, hw.1, rfl⟩
        · exact .inl hx
      · rcases hx with hx | ⟨_, p', hp, hx⟩
        · exact ⟨x, .inr hx, sto_way.irr _⟩
        · refine ⟨_, .inl rfl, ?_⟩
          have h1 := hw.2 _ hp
          obtain ⟨x1, x2⟩ := x
          have hx : x2 = (e.id, c) :: p' := hx
          subst hx
          have h2 := wLt_step (e.id, c) x1 k p' p 0
          rw [Int.zero_add, Int.zero_add] at h2
          rw [h2]
          exact h1
  · rw [if_neg hc]
    exact ho.same fun x => ⟨.inl, fun h => h.elim id fun h => absurd h.1 hc⟩
theorem blkP_self (es : List Ent) (i : Nat) (c : Str) : blkP es i i c = [] := blkP_nil es i c
/-- a path from an entry on: it reads there, or passes it by -/
theorem path_cut {es : List Ent} {i : Nat} {e : Ent} {c : Str} {k : Int} {p : Path} {bs : List Ent} (he : es[i]? = some e) (h : PathOk es i c k p bs) :
    (c ∉ e.ws ∧ onPs es (i + 1) c (k, p)) ∨ (c ∈ e.ws ∧ ∃ a k', e.pr = some a ∧ k = k' + a ∧ onPs es (i + 1) c (k', p)) ∨ (c ∈ e.rs ∧ e.isW = false ∧ k = 0 ∧ p = [(e.id, c)]) ∨ (c ∈ e.rs ∧ e.isW = true ∧ ∃ c' ∈ e.ws, ∃ p', onPs es (i + 1) c' (k, p') ∧ p = (e.id, c) :: p') := by
  have hil := (List.getElem?_eq_some_iff.mp he).1
  have on : ∀ j, i < j → blkP es i j c = (if c ∈ e.ws then [e] else []) ++ blkP es (i + 1) j c := fun j hj => blkP_succ he hj c
  have sums : ∀ l a, e.pr = some a → sumP (e :: l) = sumP l + a := fun l a hp => by simp only [sumP, hp, Option.getD]; omega
  have none_ : sumP (blkP es i i c) = 0 := by rw [blkP_nil]; rfl
  -- what passes by
  have pass : ∀ (j : Nat) (k' : Int) (p : Path), i < j → Priced (blkP es i j c) → (∀ a, Priced (blkP es (i + 1) j c) → a + sumP (blkP es (i + 1) j c) = a + sumP (blkP es (i + 1) j c) → ∃ bs, PathOk es (i + 1) c (sumP (blkP es (i + 1) j c) + k') p bs) →
      (c ∉ e.ws ∧ onPs es (i + 1) c (sumP (blkP es i j c) + k', p)) ∨ (c ∈ e.ws ∧ ∃ a k'', e.pr = some a ∧ sumP (blkP es i j c) + k' = k'' + a ∧ onPs es (i + 1) c (k'', p)) := by
    intro j k' p hj hp mk
    rw [on j hj] at hp ⊢
    by_cases hc : c ∈ e.ws
    · rw [if_pos hc] at hp ⊢
      have hpe := hp e (by simp)
      cases ha : e.pr with
      | none => exact absurd ha hpe
      | some a =>
        obtain ⟨bs', r⟩ := mk 0 (fun u hu => hp u (by simp [hu])) rfl
        refine .inr ⟨hc, a, _, rfl, ?_, bs', r⟩
        show sumP (e :: blkP es (i + 1) j c) + k' = _
        rw [sums _ a ha]
        omega
    · rw [if_neg hc] at hp ⊢
      obtain ⟨bs', r⟩ := mk 0 hp rfl
      exact .inl ⟨hc, bs', r⟩
  cases h with
  | fin hi h =>
    have := pass es.length 0 [("", c)] hil h fun _ hp _ => ⟨_, by rw [Int.add_zero]; exact .fin hil hp⟩
    rw [Int.add_zero] at this
    rcases this with z | z
    · exact .inl z
    · exact .inr (.inl z)
  | @query i' j e' c1 hij he' hw hcr h =>
    rcases Nat.lt_or_ge i j with hlt | hge
    · have := pass j 0 [(e'.id, c)] hlt h fun _ hp _ => ⟨_, by rw [Int.add_zero]; exact .query hlt he' hw hcr hp⟩
      rw [Int.add_zero] at this
      rcases this with z | z
      · exact .inl z
      · exact .inr (.inl z)
    · have ej : j = i := by omega
      subst ej
      rw [he] at he'
      obtain rfl := Option.some.inj he'
      exact .inr (.inr (.inl ⟨hcr, hw, none_, rfl⟩))
  | @read i' j e' c1 c' k' p' bs' hij he' hw hcr h hc' r =>
    rcases Nat.lt_or_ge i j with hlt | hge
    · have := pass j k' ((e'.id, c) :: p') hlt h fun _ hp _ => ⟨_, .read hlt he' hw hcr hp hc' r⟩
      rcases this with z | z
      · exact .inl z
      · exact .inr (.inl z)
    · have ej : j = i := by omega
      subst ej
      rw [he] at he'
      obtain rfl := Option.some.inj he'
      refine .inr (.inr (.inr ⟨hcr, hw, c', hc', p', ⟨bs', ?_⟩, rfl⟩))
      rw [none_, Int.zero_add]
      exact r
theorem on_least {es : List Ent} : ∀ (m i : Nat), es.length - i = m → i ≤ es.length → ∀ c, Least (onPs es i c) (onB (es.drop i) c)
  | 0, i, hm, hi, c => by
    have e : i = es.length := by omega
    subst e
    rw [List.drop_length]
    have z : sumP (blkP es es.length es.length c) = 0 := by rw [blkP_nil]; rfl
    refine ⟨⟨blkP es es.length es.length c, ?_⟩, fun x ⟨bs, hx⟩ => ?_⟩
    · have := PathOk.fin (es := es) (i := es.length) (c := c) (Nat.le_refl _) (by rw [blkP_nil]; exact fun _ h => by cases h)
      rw [z] at this
      exact this
    · obtain ⟨k, p⟩ := x
      cases hx with
      | fin _ _ => rw [z]; exact sto_way.irr _
      | query hij he _ _ _ =>
        have := (List.getElem?_eq_some_iff.mp he).1
        omega
      | read hij he _ _ _ _ _ =>
        have := (List.getElem?_eq_some_iff.mp he).1
        omega
  | m + 1, i, hm, hi, c => by
    obtain ⟨e, he⟩ : ∃ e, es[i]? = some e := ⟨_, List.getElem?_eq_getElem (by omega)⟩
    have ih := on_least (es := es) m (i + 1) (by omega) (by omega)
    rw [on_drop he]
    have none_ : Priced (blkP es i i c) := by rw [blkP_nil]; exact fun _ h => by cases h
    cases hw : e.isW with
    | true =>
      match e, hw, he with
      | .wr id rs ws pr, hw, he =>
        have hb : Least (fun x => (c ∉ ws ∧ onPs es (i + 1) c x) ∨ (c ∈ ws ∧ ∃ a k', pr = some a ∧ x.1 = k' + a ∧ onPs es (i + 1) c (k', x.2))) (blocked (.wr id rs ws pr) (onB (es.drop (i + 1))) c) := by
          unfold blocked
          by_cases hc : c ∈ ws
          · rw [if_pos (show c ∈ (Ent.wr id rs ws pr).ws from hc)]
            exact (least_past pr (ih c)).same fun x => ⟨fun h => .inr ⟨hc, h⟩, fun h => h.elim (fun h => absurd hc h.1) (·.2)⟩
          · rw [if_neg (show c ∉ (Ent.wr id rs ws pr).ws from hc)]
            exact (ih c).same fun x => ⟨fun h => .inl ⟨hc, h⟩, fun h => h.elim (·.2) (fun h => absurd h.1 hc)⟩
        refine (least_readers (.wr id rs ws pr) c (least_from ih ws) hb).same fun x => ⟨fun h => ?_, fun ⟨bs, hx⟩ => ?_⟩
        · rcases h with (⟨hc, bs, r⟩ | ⟨hc, a, k', hp, hx, bs, r⟩) | ⟨hc, p', ⟨c', hc', bs, r⟩, hx⟩
          · exact ⟨bs, path_free he hc r⟩
          · refine ⟨.wr id rs ws pr :: bs, ?_⟩
            rw [hx]
            exact path_paid he hc hp r
          · have := PathOk.read (es := es) (Nat.le_refl i) he rfl hc none_ hc' r
            rw [blkP_nil, show sumP [] + x.1 = x.1 by simp [sumP]] at this
            exact ⟨_, by rw [hx]; exact this⟩
        · rcases path_cut he hx with ⟨hc, r⟩ | ⟨hc, a, k', hp, hk, r⟩ | ⟨_, h, _⟩ | ⟨hr, _, c', hc', p', r, hp⟩
          · exact .inl (.inl ⟨hc, r⟩)
          · exact .inl (.inr ⟨hc, a, k', hp, hk, r⟩)
          · cases h
          · exact .inr ⟨hr, p', ⟨c', hc', r⟩, hp⟩
    | false =>
      match e, hw, he with
      | .qu id cs, hw, he =>
        have h0 : Least (fun x => x = ((0 : Int), ([] : Path))) (some (0, [])) := ⟨rfl, fun x hx => by rw [hx]; exact sto_way.irr _⟩
        refine (least_readers (.qu id cs) c h0 (ih c)).same fun x => ⟨fun h => ?_, fun ⟨bs, hx⟩ => ?_⟩
        · rcases h with ⟨bs, r⟩ | ⟨hc, p', h, hx⟩
          · exact ⟨bs, path_free he (fun z => by cases z) r⟩
          · obtain ⟨h1, rfl⟩ := Prod.mk.inj h
            have := PathOk.query (es := es) (Nat.le_refl i) he rfl hc none_
            rw [blkP_nil] at this
            exact ⟨_, by rw [hx, h1]; exact this⟩
        · rcases path_cut he hx with ⟨hc, r⟩ | ⟨hc, _⟩ | ⟨hr, _, hk, hp⟩ | ⟨_, h, _⟩
          · exact .inl r
          · cases hc
          · exact .inr ⟨hr, [], by rw [hk], hp⟩
          · cases h
/-- what a path of the write at i can be -/
def pathsAt (es : List Ent) (i : Nat) : Int × Path → Prop := fun x => ∃ e, es[i]? = some e ∧ ∃ c ∈ e.ws, onPs es (i + 1) c x
theorem way_least {es : List Ent} {i : Nat} {e : Ent} (he : es[i]? = some e) : Least (pathsAt es i) (wayFrom (onB (es.drop (i + 1))) e.ws) := by
  have hi := (List.getElem?_eq_some_iff.mp he).1
  refine (least_from (fun c => on_least (es.length - (i + 1)) (i + 1) rfl hi c) e.ws).same fun x => ⟨fun h => ⟨e, he, h⟩, fun ⟨e', he', h⟩ => ?_⟩
  rw [he] at he'
  obtain rfl := Option.some.inj he'
  exact h
end NV
/-! W2 -/
set_option Elab.async false
set_option linter.all false
set_option maxRecDepth 100000
set_option maxHeartbeats 600000
/-! what one change of a log does to the costs -/
namespace NV
open PySem PySem.Spec PyProof.Rows L2
def Below (o : Str → Way) : Prop := ∀ c b, costW (o c) = some b → 0 ≤ b
theorem below_from {o : Str → Way} (h : Below o) (cs : List Str) : ∀ b, costW (wayFrom o cs) = some b → 0 ≤ b := by
  intro b e
  by_cases hn : cs.filterMap o = []
  · have q := (minW_iff (cs.filterMap o)).1 hn
    unfold wayFrom at e
    rw [q] at e
    cases e
  · obtain ⟨m, hm, hin, _⟩ := (minW_iff (cs.filterMap o)).2 hn
    unfold wayFrom at e
    rw [hm] at e
    obtain ⟨c, _, hc⟩ := List.mem_filterMap.mp hin
    exact h c b (by rw [hc]; exact e)
theorem below_step {o : Str → Way} (h : Below o) {e : Ent} (ok : e.Ok) : Below (stepB e o) := by
  have reads : ∀ (w : Way) (u : Str → Way), (∀ b, costW w = some b → 0 ≤ b) → Below u → Below (readers e w u) := by
    intro w u hw hu c b hb
    unfold readers at hb
    by_cases hc : c ∈ e.rs
    · rw [if_pos hc] at hb
      match w, hw, hb with
      | none, _, hb => exact hu c b hb
      | some (k, p), hw, hb =>
        rw [cost_better] at hb
        have hk := hw k rfl
        cases hx : costW (u c) with
        | none => rw [hx] at hb; exact (Option.some.inj hb) ▸ hk
        | some j =>
          rw [hx] at hb
          have hj := hu c j hx
          have hb : min k j = b := Option.some.inj hb
          omega
    · rw [if_neg hc] at hb
      exact hu c b hb
  match e, ok with
  | .wr id rs ws pr, ok =>
    refine reads _ _ (below_from h _) fun c b hb => ?_
    unfold blocked at hb
    by_cases hc : c ∈ (Ent.wr id rs ws pr).ws
    · rw [if_pos hc] at hb
      obtain ⟨_, _, _, hp⟩ := ok
      cases ho : o c with
      | none => rw [ho] at hb; cases hb
      | some x =>
        rw [ho] at hb
        have hx := h c x.1 (by rw [ho]; rfl)
        match pr, hp, hb with
        | some i, hp, hb =>
          have hi := (hp i rfl).1
          have hb : x.1 + i = b := Option.some.inj hb
          omega
    · rw [if_neg hc] at hb
      exact h c b hb
  | .qu id cs, _ => exact reads (some (0, [])) o (fun b e => by have e : (0 : Int) = b := Option.some.inj e; omega) h
theorem below_end : Below endW := fun c b e => by
  have e : (0 : Int) = b := Option.some.inj e
  omega
/-- one more entry at the end -/
theorem more_on {e : Ent} (ok : e.Ok) (c : Str) : leC 0 (costW (onB [] c)) (costW (onB [e] c)) := fun b hb => ⟨0, rfl, by have := below_step below_end ok c b hb; omega⟩
theorem readers_le {e : Ent} {s : Int} (hs : 0 ≤ s) (w : Way) {u : Str → Way} {z : Way} {c : Str} (h : leC s (costW (u c)) (costW z)) : leC s (costW (readers e w u c)) (costW z) := by
  unfold readers
  by_cases hc : c ∈ e.rs
  · rw [if_pos hc]
    match w with
    | none => exact h
    | some (k, p) => exact better_le hs _ h
  · rw [if_neg hc]
    exact h
/-- a write's price is the most that it adds -/
theorem write_on {id : Str} {rs ws : List Str} {i : Int} (hi : 0 ≤ i) (rest : List Ent) (c : Str) : leC i (costW (onB (.wr id rs ws (some i) :: rest) c)) (costW (onB rest c)) := by
  refine readers_le hi _ ?_
  unfold blocked
  by_cases hc : c ∈ (Ent.wr id rs ws (some i)).ws
  · rw [if_pos hc]
    exact cost_past_self _
  · rw [if_neg hc]
    exact leC.refl hi _
/-- a query adds nothing -/
theorem query_on {id : Str} {cs : List Str} (rest : List Ent) (c : Str) : leC 0 (costW (onB (.qu id cs :: rest) c)) (costW (onB rest c)) := readers_le (e := .qu id cs) (c := c) (Int.le_refl 0) (some (0, [])) (u := onB rest) (leC.refl (Int.le_refl 0) _)
/-- a sealed write lets nothing past -/
theorem sealed_on {id : Str} {rs ws : List Str} {pr : Option Int} (rest : List Ent) (c : Str) : leC 0 (costW (onB (.wr id rs ws pr :: rest) c)) (costW (onB (.wr id rs ws none :: rest) c)) := by
  show leC 0 (costW (readers (.wr id rs ws pr) (wayFrom (onB rest) ws) (blocked (.wr id rs ws pr) (onB rest)) c)) (costW (readers (.wr id rs ws none) (wayFrom (onB rest) ws) (blocked (.wr id rs ws none) (onB rest)) c))
  have hu : leC 0 (costW (blocked (.wr id rs ws pr) (onB rest) c)) (costW (blocked (.wr id rs ws none) (onB rest) c)) := by
    unfold blocked
    by_cases hc : c ∈ ws
    · rw [if_pos (show c ∈ (Ent.wr id rs ws pr).ws from hc), if_pos (show c ∈ (Ent.wr id rs ws none).ws from hc)]
      intro b e
      cases ho : onB rest c with
      | none => rw [ho] at e; cases e
      | some x => rw [ho] at e; cases e
    · rw [if_neg (show c ∉ (Ent.wr id rs ws pr).ws from hc), if_neg (show c ∉ (Ent.wr id rs ws none).ws from hc)]
      exact leC.refl (Int.le_refl 0) _
  unfold readers
  by_cases hc : c ∈ rs
  · rw [if_pos (show c ∈ (Ent.wr id rs ws pr).rs from hc), if_pos (show c ∈ (Ent.wr id rs ws none).rs from hc)]
    match wayFrom (onB rest) ws with
    | none => exact hu
    | some (k, p) => exact le_better (by omega) hu
  · rw [if_neg (show c ∉ (Ent.wr id rs ws pr).rs from hc), if_neg (show c ∉ (Ent.wr id rs ws none).rs from hc)]
    exact hu
/-! ### the law's claims -/
theorem nodup_mid {pre rest : List Ent} {e : Ent} (nd : ((pre ++ e :: rest).map Ent.id).Nodup) : ((pre ++ rest).map Ent.id).Nodup := by
  refine nd.sublist (List.Sublist.map _ ?_)
  exact List.Sublist.append_left (List.sublist_cons_self e rest) pre
/-- an entry at the end: no cost falls -/
theorem last_up {es : List Ent} {e : Ent} (ok : e.Ok) (nd : ((es ++ [e]).map Ent.id).Nodup) : rises (costsL es) (costsL (es ++ [e])) 0 := by
  have := costs_pre (Int.le_refl 0) (es := []) (es' := [e]) (more_on ok) (fun n x y hx => by cases hx) es (by rw [List.append_nil]; exact nd.sublist (List.Sublist.map _ (List.sublist_append_left es [e]))) nd
  rw [List.append_nil] at this
  exact this
/-- a write at the end: no cost rises by more than its price -/
theorem last_down {es : List Ent} {id : Str} {rs ws : List Str} {i : Int} (hi : 0 ≤ i) (nd : ((es ++ [Ent.wr id rs ws (some i)]).map Ent.id).Nodup) : rises (costsL (es ++ [Ent.wr id rs ws (some i)])) (costsL es) i := by
  have := costs_pre hi (es := [Ent.wr id rs ws (some i)]) (es' := []) (write_on hi []) (fun n x y _ hy => by cases hy) es nd (by rw [List.append_nil]; exact nd.sublist (List.Sublist.map _ (List.sublist_append_left es _)))
  rw [List.append_nil] at this
  exact this
theorem rest_nodup {pre rest : List Ent} {e : Ent} (nd : ((pre ++ e :: rest).map Ent.id).Nodup) : (rest.map Ent.id).Nodup := nd.sublist (List.Sublist.map _ ((List.sublist_cons_self e rest).trans (List.sublist_append_right pre _)))
theorem tail_nodup {pre rest : List Ent} {e : Ent} (nd : ((pre ++ e :: rest).map Ent.id).Nodup) : ((e :: rest).map Ent.id).Nodup := nd.sublist (List.Sublist.map _ (List.sublist_append_right pre _))
/-- a query left out: no cost falls -/
theorem no_query {pre rest : List Ent} {id : Str} {cs : List Str} (nd : ((pre ++ .qu id cs :: rest).map Ent.id).Nodup) : rises (costsL (pre ++ .qu id cs :: rest)) (costsL (pre ++ rest)) 0 :=
  costs_pre (Int.le_refl 0) (query_on rest) (rises_self (es := rest) (Int.le_refl 0) (rest_nodup (pre := pre) (e := .qu id cs) nd)) pre nd (nodup_mid nd)
/-- a write left out: no cost falls by more than its price -/
theorem no_write {pre rest : List Ent} {id : Str} {rs ws : List Str} {i : Int} (hi : 0 ≤ i) (nd : ((pre ++ .wr id rs ws (some i) :: rest).map Ent.id).Nodup) : rises (costsL (pre ++ .wr id rs ws (some i) :: rest)) (costsL (pre ++ rest)) i := by
  refine costs_pre hi (write_on hi rest) (fun n x y hx hy => ?_) pre nd (nodup_mid nd)
  rcases List.mem_append.mp hx with h | h
  · have e : n = id := by
      have h : (n, x) ∈ [(id, costW (wayFrom (onB rest) ws))] := h
      exact (Prod.mk.inj (List.mem_singleton.mp h)).1
    have t := List.nodup_cons.mp (tail_nodup nd)
    refine absurd ?_ t.1
    have : n ∈ (costsL rest).map (·.1) := List.mem_map.mpr ⟨_, hy, rfl⟩
    rw [costsL_names, e] at this
    obtain ⟨u, hu, hid⟩ := List.mem_map.mp this
    exact List.mem_map.mpr ⟨u, (List.mem_filter.mp hu).1, hid⟩
  · exact rises_self hi (rest_nodup nd) n x y h hy
/-- a write sealed: no cost falls -/
theorem seal_up {pre rest : List Ent} {id : Str} {rs ws : List Str} {pr : Option Int} (nd : ((pre ++ .wr id rs ws pr :: rest).map Ent.id).Nodup) : rises (costsL (pre ++ .wr id rs ws pr :: rest)) (costsL (pre ++ .wr id rs ws none :: rest)) 0 := by
  refine costs_pre (Int.le_refl 0) (sealed_on rest) ?_ pre nd (by simpa [Ent.id] using nd)
  exact rises_self (es := .wr id rs ws pr :: rest) (Int.le_refl 0) (tail_nodup nd)
/-- behind the last write nothing costs -/
theorem free_on : ∀ {es : List Ent}, (∀ e ∈ es, e.isW = false) → ∀ c, costW (onB es c) = some 0
  | [], _, c => rfl
  | .wr .. :: es, h, _ => absurd (h _ List.mem_cons_self) (by simp [Ent.isW])
  | .qu id cs :: es, h, c => by
    have ih := free_on (es := es) (fun e he => h e (List.mem_cons_of_mem _ he)) c
    show costW (readers (.qu id cs) (some (0, [])) (onB es) c) = some 0
    unfold readers
    by_cases hc : c ∈ (Ent.qu id cs).rs
    · rw [if_pos hc]
      show costW (better _ (onB es c)) = _
      rw [cost_better, ih]
      rfl
    · rw [if_neg hc]
      exact ih
theorem last_free {pre rest : List Ent} {e : Ent} (hw : e.isW = true) (ok : e.Ok) (h : ∀ u ∈ rest, u.isW = false) : costW (wayFrom (onB rest) e.ws) = some 0 := by
  match e, hw, ok with
  | .wr id rs ws pr, _, ok =>
    obtain ⟨_, _, hws, _⟩ := ok
    obtain ⟨c, hc⟩ : ∃ c, c ∈ ws := by
      have := hws.lo
      cases ws with
      | nil => simp at this
      | cons a l => exact ⟨a, List.mem_cons_self⟩
    obtain ⟨x, hx⟩ : ∃ x, onB rest c = some x := by
      have := free_on h c
      cases q : onB rest c with
      | none => rw [q] at this; cases this
      | some x => exact ⟨x, rfl⟩
    have hin : x ∈ ws.filterMap (onB rest) := List.mem_filterMap.mpr ⟨c, hc, hx⟩
    obtain ⟨m, hm, hmem, _⟩ := (minW_iff (ws.filterMap (onB rest))).2 (fun z => by rw [z] at hin; cases hin)
    obtain ⟨d, _, hd⟩ := List.mem_filterMap.mp hmem
    have := free_on h d
    rw [hd] at this
    show costW (minW (ws.filterMap (onB rest))) = some 0
    rw [hm]
    exact this
end NV
/-! X1 -/
set_option Elab.async false
set_option linter.all false
set_option maxRecDepth 100000
set_option maxHeartbeats 600000
/-! what compaction keeps, whenever it is done -/
namespace NV
open PySem PySem.Spec PyProof.Rows L2
/-- the same cost, where it is at most B -/
def eqC (B : Int) (x y : Cost) : Prop := (∀ a, x = some a → a ≤ B → y = some a) ∧ (∀ b, y = some b → b ≤ B → x = some b)
theorem eqC.refl {B : Int} (x : Cost) : eqC B x x := ⟨fun _ e _ => e, fun _ e _ => e⟩
theorem eqC.symm {B : Int} {x y : Cost} (h : eqC B x y) : eqC B y x := ⟨h.2, h.1⟩
theorem eqC.trans {B : Int} {x y z : Cost} (h : eqC B x y) (h' : eqC B y z) : eqC B x z := ⟨fun a e l => h'.1 a (h.1 a e l) l, fun b e l => h.2 b (h'.2 b e l) l⟩
/-- both above B -/
theorem eqC.far {B : Int} {x y : Cost} (hx : ∀ a, x = some a → B < a) (hy : ∀ a, y = some a → B < a) : eqC B x y := ⟨fun a e l => by have := hx a e; omega, fun a e l => by have := hy a e; omega⟩
theorem from_some {o : Str → Way} {cs : List Str} {b : Int} (h : costW (wayFrom o cs) = some b) : (∃ c ∈ cs, costW (o c) = some b) ∧ ∀ c ∈ cs, ∀ b', costW (o c) = some b' → b ≤ b' := by
  by_cases hn : cs.filterMap o = []
  · unfold wayFrom at h
    rw [(minW_iff _).1 hn] at h
    cases h
  · obtain ⟨m, hm, hin, hl⟩ := (minW_iff (cs.filterMap o)).2 hn
    unfold wayFrom at h
    rw [hm] at h
    have hb : m.1 = b := Option.some.inj h
    obtain ⟨c, hc, hoc⟩ := List.mem_filterMap.mp hin
    refine ⟨⟨c, hc, by rw [hoc]; exact congrArg some hb⟩, fun c' hc' b' hb' => ?_⟩
    cases ho : o c' with
    | none => rw [ho] at hb'; cases hb'
    | some w =>
      rw [ho] at hb'
      have := hl w (List.mem_filterMap.mpr ⟨c', hc', ho⟩)
      have : w.1 = b' := Option.some.inj hb'
      omega
theorem from_le {o : Str → Way} {cs : List Str} {c : Str} {b : Int} (hc : c ∈ cs) (h : costW (o c) = some b) : ∃ b', costW (wayFrom o cs) = some b' ∧ b' ≤ b := by
  cases ho : o c with
  | none => rw [ho] at h; cases h
  | some w =>
    rw [ho] at h
    have hb : w.1 = b := Option.some.inj h
    have hin : w ∈ cs.filterMap o := List.mem_filterMap.mpr ⟨c, hc, ho⟩
    obtain ⟨m, hm, _, hl⟩ := (minW_iff (cs.filterMap o)).2 (fun z => by rw [z] at hin; cases hin)
    refine ⟨m.1, by unfold wayFrom; rw [hm]; rfl, ?_⟩
    have := hl w hin
    omega
theorem eq_from {B : Int} {o o' : Str → Way} {cs : List Str} (h : ∀ c, eqC B (costW (o c)) (costW (o' c))) : eqC B (costW (wayFrom o cs)) (costW (wayFrom o' cs)) := by
  have one : ∀ {o o' : Str → Way}, (∀ c, eqC B (costW (o c)) (costW (o' c))) → ∀ a, costW (wayFrom o cs) = some a → a ≤ B → costW (wayFrom o' cs) = some a := by
    intro o o' h a e l
    obtain ⟨⟨c, hc, hoc⟩, low⟩ := from_some e
    obtain ⟨b, hb, hba⟩ := from_le hc ((h c).1 a hoc l)
    obtain ⟨⟨c2, hc2, hoc2⟩, _⟩ := from_some hb
    have := low c2 hc2 b ((h c2).2 b hoc2 (by omega))
    rw [hb]
    congr 1
    omega
  exact ⟨one h, one fun c => (h c).symm⟩
theorem eq_past {B : Int} {pr : Option Int} (hp : PrOk pr) {x y : Way} (h : eqC B (costW x) (costW y)) : eqC B (costW (past pr x)) (costW (past pr y)) := by
  have one : ∀ {x y : Way}, eqC B (costW x) (costW y) → ∀ a, costW (past pr x) = some a → a ≤ B → costW (past pr y) = some a := by
    intro x y h a e l
    match x, pr, hp, e with
    | some (k, p), some i, hp, e =>
      have hi := (hp i rfl).1
      have e : k + i = a := Option.some.inj e
      have hk := h.1 k rfl (by omega)
      cases y with
      | none => cases hk
      | some z =>
        have hz : z.1 = k := Option.some.inj hk
        show some (z.1 + i) = some a
        rw [hz, e]
  exact ⟨one h, one h.symm⟩
theorem eq_better {B : Int} {x y : Int × Path} {u v : Way} (h : eqC B (some x.1) (some y.1)) (h' : eqC B (costW u) (costW v)) : eqC B (costW (better x u)) (costW (better y v)) := by
  have one : ∀ {x y : Int × Path} {u v : Way}, eqC B (some x.1) (some y.1) → eqC B (costW u) (costW v) → ∀ a, costW (better x u) = some a → a ≤ B → costW (better y v) = some a := by
    intro x y u v h h' a e l
    rw [cost_better] at e ⊢
    have bx : x.1 ≤ B → y.1 = x.1 := fun z => Option.some.inj (h.1 x.1 rfl z)
    have by_ : y.1 ≤ B → x.1 = y.1 := fun z => Option.some.inj (h.2 y.1 rfl z)
    cases hu : costW u with
    | none =>
      rw [hu] at e
      have e : x.1 = a := Option.some.inj e
      have := bx (by omega)
      cases hv : costW v with
      | none => show some y.1 = some a; congr 1; omega
      | some b =>
        show some (min y.1 b) = some a
        have : ¬ b ≤ B := fun z => by
          have := h'.2 b hv z
          rw [hu] at this
          cases this
        congr 1
        omega
    | some c =>
      rw [hu] at e
      have e : min x.1 c = a := Option.some.inj e
      cases hv : costW v with
      | none =>
        have : ¬ c ≤ B := fun z => by
          have := h'.1 c hu z
          rw [hv] at this
          cases this
        show some y.1 = some a
        have hx : x.1 = a := by omega
        have := bx (by omega)
        congr 1
        omega
      | some b =>
        have hcb : c ≤ B → b = c := fun z => by
          have := h'.1 c hu z
          rw [hv] at this
          exact Option.some.inj this
        have hbc : b ≤ B → c = b := fun z => by
          have := h'.2 b hv z
          rw [hu] at this
          exact Option.some.inj this
        show some (min y.1 b) = some a
        congr 1
        by_cases h1 : x.1 ≤ B <;> by_cases h2 : c ≤ B <;> by_cases h3 : y.1 ≤ B <;> by_cases h4 : b ≤ B <;> omega
  exact ⟨one h h', one h.symm h'.symm⟩
/-- a reading that is too dear changes nothing -/
theorem eq_far {B : Int} {x : Int × Path} {u : Way} (h : B < x.1) : eqC B (costW (better x u)) (costW u) := by
  constructor
  · intro a e l
    rw [cost_better] at e
    cases hu : costW u with
    | none => rw [hu] at e; have e : x.1 = a := Option.some.inj e; omega
    | some c => rw [hu] at e; have e : min x.1 c = a := Option.some.inj e; congr 1; omega
  · intro a e l
    rw [cost_better, e]
    show some (min x.1 a) = some a
    congr 1
    omega
theorem eq_reads {B : Int} {e : Ent} {w w' : Way} {u u' : Str → Way} (hw : eqC B (costW w) (costW w')) (hu : ∀ c, eqC B (costW (u c)) (costW (u' c))) (c : Str) : eqC B (costW (readers e w u c)) (costW (readers e w' u' c)) := by
  unfold readers
  by_cases hc : c ∈ e.rs
  · rw [if_pos hc, if_pos hc]
    match w, w', hw with
    | none, none, _ => exact hu c
    | some (k, p), some (k', p'), hw => exact eq_better (x := (k, _)) (y := (k', _)) hw (hu c)
    | some (k, p), none, hw =>
      have : B < k := by
        rcases Int.lt_or_le B k with h | h
        · exact h
        · cases hw.1 k rfl h
      exact (eq_far (x := (k, _)) this).trans (hu c)
    | none, some (k, p), hw =>
      have : B < k := by
        rcases Int.lt_or_le B k with h | h
        · exact h
        · cases hw.2 k rfl h
      exact (hu c).trans (eq_far (x := (k, _)) this).symm
  · rw [if_neg hc, if_neg hc]
    exact hu c
theorem Ent.Ok.prOk {e : Ent} (h : e.Ok) : PrOk e.pr := by
  cases e with
  | wr id rs ws pr => exact h.2.2.2
  | qu id cs => exact fun i e => by cases e
theorem eq_step {B : Int} {e : Ent} (ok : e.Ok) {o o' : Str → Way} (h : ∀ c, eqC B (costW (o c)) (costW (o' c))) : ∀ c, eqC B (costW (stepB e o c)) (costW (stepB e o' c)) := by
  cases e with
  | wr id rs ws pr =>
    refine eq_reads (eq_from h) fun c => ?_
    unfold blocked
    by_cases hc : c ∈ (Ent.wr id rs ws pr).ws
    · rw [if_pos hc, if_pos hc]
      exact eq_past ok.prOk (h c)
    · rw [if_neg hc, if_neg hc]
      exact h c
  | qu id cs => exact eq_reads (w := some (0, [])) (w' := some (0, [])) (eqC.refl _) h
def within (B : Int) : Cost → Bool
  | none => false
  | some k => decide (k ≤ B)
theorem eqC.within {B : Int} {x y : Cost} (h : eqC B x y) : within B x = within B y := by
  cases x with
  | none =>
    cases y with
    | none => rfl
    | some b =>
      show false = decide (b ≤ B)
      symm
      exact decide_eq_false fun z => by cases h.2 b rfl z
  | some a =>
    cases y with
    | none =>
      show decide (a ≤ B) = false
      exact decide_eq_false fun z => by cases h.1 a rfl z
    | some b =>
      show decide (a ≤ B) = decide (b ≤ B)
      rw [decide_eq_decide]
      exact ⟨fun z => by have := Option.some.inj (h.1 a rfl z); omega, fun z => by have := Option.some.inj (h.2 b rfl z); omega⟩
theorem far_of {B : Int} {x : Cost} (h : within B x = false) : ∀ a, x = some a → B < a := fun a e => by
  rw [e] at h
  have := of_decide_eq_false h
  omega
/-- a write that costs more than B is not missed -/
theorem eq_del {B : Int} {e : Ent} (hw : e.isW = true) (ok : e.Ok) {o : Str → Way} (h : within B (costW (wayFrom o e.ws)) = false) : ∀ c, eqC B (costW (stepB e o c)) (costW (o c)) := by
  intro c
  have far := far_of h
  have step : stepB e o = readers e (wayFrom o e.ws) (blocked e o) := by
    cases e with
    | wr id rs ws pr => rfl
    | qu id cs => cases hw
  rw [step]
  have hb : eqC B (costW (blocked e o c)) (costW (o c)) := by
    unfold blocked
    by_cases hc : c ∈ e.ws
    · rw [if_pos hc]
      have fo : ∀ a, costW (o c) = some a → B < a := fun a ha => by
        obtain ⟨b, hb, hba⟩ := from_le hc ha
        have := far b hb
        omega
      refine .far (fun a ha => ?_) fo
      match hoc : o c, hp : e.pr, ok.prOk, ha with
      | some (k, p), some i, hpr, ha =>
        have ha : k + i = a := Option.some.inj ha
        have := fo k (by rw [hoc]; rfl)
        have := (hpr i rfl).1
        omega
    · rw [if_neg hc]
      exact .refl _
  unfold readers
  by_cases hc : c ∈ e.rs
  · rw [if_pos hc]
    match hwf : wayFrom o e.ws with
    | none => exact hb
    | some (k, p) => exact (eq_far (x := (k, _)) (far k (by rw [hwf]; rfl))).trans hb
  · rw [if_neg hc]
    exact hb
/-! ### parts of logs -/
def onF : List Ent → (Str → Way) → Str → Way
  | [], o => o
  | e :: M, o => stepB e (onF M o)
theorem onB_app : ∀ (M rest : List Ent), onB (M ++ rest) = onF M (onB rest)
  | [], _ => rfl
  | e :: M, rest => by
    show stepB e (onB (M ++ rest)) = stepB e (onF M (onB rest))
    rw [onB_app M rest]
theorem onB_F (M : List Ent) : onB M = onF M endW := by
  have := onB_app M []
  rw [List.append_nil] at this
  exact this
def keeps (B : Int) (e : Ent) (o : Str → Way) : Bool := !e.isW || within B (costW (wayFrom o e.ws))
def keptO (B : Int) : List Ent → (Str → Way) → List Ent
  | [], _ => []
  | e :: M, o => (if keeps B e (onF M o) then [e] else []) ++ keptO B M o
def keptB (B : Int) (M : List Ent) : List Ent := keptO B M endW
theorem onF_app : ∀ (M N : List Ent) (o : Str → Way), onF (M ++ N) o = onF M (onF N o)
  | [], _, _ => rfl
  | e :: M, N, o => by
    show stepB e (onF (M ++ N) o) = stepB e (onF M (onF N o))
    rw [onF_app M N o]
theorem keptO_app (B : Int) : ∀ (M N : List Ent) (o : Str → Way), keptO B (M ++ N) o = keptO B M (onF N o) ++ keptO B N o
  | [], _, _ => rfl
  | e :: M, N, o => by
    show (if keeps B e (onF (M ++ N) o) then [e] else []) ++ keptO B (M ++ N) o = ((if keeps B e (onF M (onF N o)) then [e] else []) ++ keptO B M (onF N o)) ++ keptO B N o
    rw [onF_app, keptO_app B M N o, List.append_assoc]
theorem keptO_sub (B : Int) : ∀ (M : List Ent) (o : Str → Way), List.Sublist (keptO B M o) M
  | [], _ => .slnil
  | e :: M, o => by
    show List.Sublist ((if keeps B e (onF M o) then [e] else []) ++ keptO B M o) (e :: M)
    cases keeps B e (onF M o) with
    | true => exact (keptO_sub B M o).cons_cons e
    | false => exact (keptO_sub B M o).cons e
theorem eq_onF {B : Int} {o o' : Str → Way} (h : ∀ c, eqC B (costW (o c)) (costW (o' c))) : ∀ (M : List Ent), (∀ e ∈ M, e.Ok) → ∀ c, eqC B (costW (onF M o c)) (costW (onF M o' c))
  | [], _ => h
  | e :: M, ok => eq_step (ok e List.mem_cons_self) (eq_onF h M fun u hu => ok u (List.mem_cons_of_mem _ hu))
theorem eq_keeps {B : Int} {e : Ent} {o o' : Str → Way} (h : ∀ c, eqC B (costW (o c)) (costW (o' c))) : keeps B e o = keeps B e o' := by
  unfold keeps
  rw [(eq_from (cs := e.ws) h).within]
theorem eq_keptO {B : Int} {o o' : Str → Way} (h : ∀ c, eqC B (costW (o c)) (costW (o' c))) : ∀ (M : List Ent), (∀ e ∈ M, e.Ok) → keptO B M o = keptO B M o'
  | [], _ => rfl
  | e :: M, ok => by
    have ok' : ∀ u ∈ M, u.Ok := fun u hu => ok u (List.mem_cons_of_mem _ hu)
    show (if keeps B e (onF M o) then [e] else []) ++ keptO B M o = (if keeps B e (onF M o') then [e] else []) ++ keptO B M o'
    rw [eq_keeps (eq_onF h M ok'), eq_keptO h M ok']
theorem le_onF {o : Str → Way} (h : Below o) : ∀ (M : List Ent), ∀ c, leC 0 (costW (onF M endW c)) (costW (onF M o c))
  | [] => fun c b e => ⟨0, rfl, by have := h c b e; omega⟩
  | e :: M => le_step (Int.le_refl 0) e (le_onF h M)
/-- what is deleted alone is deleted with more behind it, for a smaller budget too -/
theorem del_more {B B' : Int} (hB : B ≤ B') {e : Ent} {M : List Ent} {o : Str → Way} (h : Below o) (hd : keeps B' e (onF M endW) = false) : e.isW = true ∧ within B (costW (wayFrom (onF M o) e.ws)) = false := by
  unfold keeps at hd
  rw [Bool.or_eq_false_iff, Bool.not_eq_false'] at hd
  refine ⟨hd.1, ?_⟩
  cases hx : costW (wayFrom (onF M o) e.ws) with
  | none => rfl
  | some b =>
    obtain ⟨a, ha, hab⟩ := le_from (cs := e.ws) (le_onF h M) b hx
    have := far_of hd.2 a ha
    show decide (b ≤ B) = false
    exact decide_eq_false (by omega)
/-- a part compacted first makes no difference to what comes before it .. -/
theorem part_on {B B' : Int} (hB : B ≤ B') {o : Str → Way} (h : Below o) : ∀ (M : List Ent), (∀ e ∈ M, e.Ok) → ∀ c, eqC B (costW (onF (keptB B' M) o c)) (costW (onF M o c))
  | [], _, c => eqC.refl _
  | e :: M, ok, c => by
    have ok' : ∀ u ∈ M, u.Ok := fun u hu => ok u (List.mem_cons_of_mem _ hu)
    have ih := part_on hB h M ok'
    show eqC B (costW (onF ((if keeps B' e (onF M endW) then [e] else []) ++ keptO B' M endW) o c)) _
    cases hk : keeps B' e (onF M endW) with
    | true => exact eq_step (ok e List.mem_cons_self) ih c
    | false =>
      obtain ⟨hw, hf⟩ := del_more hB h hk
      exact (ih c).trans (eq_del hw (ok e List.mem_cons_self) hf c).symm
/-- .. nor to what is kept of it -/
theorem part_kept {B B' : Int} (hB : B ≤ B') {o : Str → Way} (h : Below o) : ∀ (M : List Ent), (∀ e ∈ M, e.Ok) → keptO B (keptB B' M) o = keptO B M o
  | [], _ => rfl
  | e :: M, ok => by
    have ok' : ∀ u ∈ M, u.Ok := fun u hu => ok u (List.mem_cons_of_mem _ hu)
    have ih := part_kept hB h M ok'
    have on := part_on hB h M ok'
    show keptO B ((if keeps B' e (onF M endW) then [e] else []) ++ keptO B' M endW) o = (if keeps B e (onF M o) then [e] else []) ++ keptO B M o
    cases hk : keeps B' e (onF M endW) with
    | true =>
      show (if keeps B e (onF (keptB B' M) o) then [e] else []) ++ keptO B (keptB B' M) o = _
      rw [ih, eq_keeps on]
    | false =>
      obtain ⟨hw, hf⟩ := del_more hB h hk
      have hno : keeps B e (onF M o) = false := by
        unfold keeps
        rw [hw, hf]
        rfl
      rw [hno]
      exact ih
theorem below_on : ∀ (M : List Ent), (∀ e ∈ M, e.Ok) → Below (onB M)
  | [], _ => below_end
  | e :: M, ok => below_step (below_on M fun u hu => ok u (List.mem_cons_of_mem _ hu)) (ok e List.mem_cons_self)
theorem kept_parts {B B' : Int} (hB : B ≤ B') (pre M rest : List Ent) (ok : ∀ e ∈ pre ++ (M ++ rest), e.Ok) : keptB B (pre ++ (keptB B' M ++ rest)) = keptB B (pre ++ (M ++ rest)) := by
  have okp : ∀ e ∈ pre, e.Ok := fun e he => ok e (List.mem_append_left _ he)
  have okm : ∀ e ∈ M, e.Ok := fun e he => ok e (List.mem_append_right _ (List.mem_append_left _ he))
  have okr : ∀ e ∈ rest, e.Ok := fun e he => ok e (List.mem_append_right _ (List.mem_append_right _ he))
  have hb : Below (onF rest endW) := by rw [← onB_F]; exact below_on rest okr
  unfold keptB
  rw [keptO_app, keptO_app, keptO_app, keptO_app]
  congr 1
  · rw [onF_app, onF_app]
    exact eq_keptO (part_on hB hb M okm) pre okp
  · congr 1
    exact part_kept hB hb M okm
/-- compacted once, compacted -/
theorem kept_same {B B' : Int} (hB : B ≤ B') {M : List Ent} (ok : ∀ e ∈ M, e.Ok) : keptB B' (keptB B M) = keptB B M := by
  have h := kept_parts (B := B) (B' := B) (Int.le_refl B) [] M [] (by simpa using ok)
  simp only [List.nil_append, List.append_nil] at h
  generalize keptB B M = N at h
  have all : ∀ (N : List Ent) (o : Str → Way), keptO B N o = N → keptO B' N o = N := by
    intro N
    induction N with
    | nil => intro o _; rfl
    | cons e N ih =>
      intro o h
      have h : (if keeps B e (onF N o) then [e] else []) ++ keptO B N o = e :: N := h
      have hk : keeps B e (onF N o) = true := by
        cases hk : keeps B e (onF N o) with
        | true => rfl
        | false =>
          rw [hk] at h
          have := (keptO_sub B N o).length_le
          have h2 := congrArg List.length h
          simp at h2
          omega
      rw [hk] at h
      have h2 : keptO B N o = N := (List.cons.inj h).2
      show (if keeps B' e (onF N o) then [e] else []) ++ keptO B' N o = e :: N
      rw [ih o h2]
      have : keeps B' e (onF N o) = true := by
        unfold keeps at hk ⊢
        cases hx : costW (wayFrom (onF N o) e.ws) with
        | none => rw [hx] at hk; exact hk
        | some k =>
          rw [hx] at hk
          rw [Bool.or_eq_true] at hk ⊢
          exact hk.imp id fun z => decide_eq_true (by have := of_decide_eq_true z; omega)
      rw [this]
      rfl
  exact all N endW h
theorem keptB_sub (B : Int) (es : List Ent) : List.Sublist (keptB B es) es := keptO_sub B es endW
end NV
/-! X2 -/
set_option Elab.async false
set_option linter.all false
set_option maxRecDepth 100000
set_option maxHeartbeats 600000
/-! costs edge by edge -/
namespace NV
open PySem PySem.Spec PyProof.Rows L2
def minC : Cost → Cost → Cost
  | none, y => y
  | x, none => x
  | some a, some b => some (min a b)
def addC : Cost → Cost → Cost
  | some a, some b => some (a + b)
  | _, _ => none
theorem minC_none (x : Cost) : minC x none = x := by cases x <;> rfl
theorem minC_assoc (x y z : Cost) : minC (minC x y) z = minC x (minC y z) := by
  cases x <;> cases y <;> cases z <;> simp [minC, Int.min_assoc]
theorem addC_zero (x : Cost) : addC (some 0) x = x := by
  cases x <;> simp [addC]
theorem addC_assoc (x y z : Cost) : addC (addC x y) z = addC x (addC y z) := by
  cases x <;> cases y <;> cases z <;> simp [addC, Int.add_assoc]
theorem addC_comm (x y : Cost) : addC x y = addC y x := by
  cases x <;> cases y <;> simp [addC, Int.add_comm]
theorem addC_min (t x y : Cost) : addC t (minC x y) = minC (addC t x) (addC t y) := by
  cases t <;> cases x <;> cases y <;> simp [addC, minC]
def minL : List Cost → Cost
  | [] => none
  | x :: l => minC x (minL l)
theorem minL_app : ∀ l m : List Cost, minL (l ++ m) = minC (minL l) (minL m)
  | [], m => rfl
  | x :: l, m => by
    show minC x (minL (l ++ m)) = minC (minC x (minL l)) (minL m)
    rw [minL_app l m, minC_assoc]
theorem minL_fold : ∀ (l : List Cost) (a : Cost), l.foldl minC a = minC a (minL l)
  | [], a => (minC_none a).symm
  | x :: l, a => by
    show l.foldl minC (minC a x) = minC a (minC x (minL l))
    rw [minL_fold l, minC_assoc]
theorem minL_some {l : List Cost} : ∀ {b : Int}, minL l = some b ↔ some b ∈ l ∧ ∀ b', some b' ∈ l → b ≤ b' := by
  induction l with
  | nil => intro b; simp [minL]
  | cons x l ih =>
    intro b
    show minC x (minL l) = some b ↔ _
    cases x with
    | none =>
      show minL l = some b ↔ _
      rw [ih]
      simp
    | some a =>
      cases hm : minL l with
      | none =>
        have no : ∀ b', some b' ∉ l := by
          intro b' hb'
          clear ih
          induction l with
          | nil => cases hb'
          | cons y l ihl =>
            have hm : minC y (minL l) = none := hm
            cases y with
            | none => exact ihl hm ((List.mem_cons.mp hb').resolve_left (by simp))
            | some c =>
              cases h : minL l with
              | none => rw [h] at hm; cases hm
              | some d => rw [h] at hm; cases hm
        show some a = some b ↔ _
        constructor
        · intro e
          cases e
          exact ⟨List.mem_cons_self, fun b' h => by
            rcases List.mem_cons.mp h with z | z
            · cases z; exact Int.le_refl _
            · exact absurd z (no b')⟩
        · rintro ⟨h, _⟩
          rcases List.mem_cons.mp h with z | z
          · exact z.symm
          · exact absurd z (no b)
      | some c =>
        have hc := ih.mp hm
        show some (min a c) = some b ↔ _
        constructor
        · intro e
          have e : min a c = b := Option.some.inj e
          refine ⟨?_, fun b' h => ?_⟩
          · by_cases hac : a ≤ c
            · have : a = b := by omega
              rw [this]; exact List.mem_cons_self
            · have : c = b := by omega
              rw [← this]; exact List.mem_cons_of_mem _ hc.1
          · rcases List.mem_cons.mp h with z | z
            · cases z; omega
            · have := hc.2 b' z; omega
        · rintro ⟨h, low⟩
          congr 1
          have h1 := low a List.mem_cons_self
          have h2 := low c (List.mem_cons_of_mem _ hc.1)
          rcases List.mem_cons.mp h with z | z
          · cases z; omega
          · have := hc.2 b z; omega
theorem from_min (o : Str → Way) (cs : List Str) : costW (wayFrom o cs) = minL (cs.map fun c => costW (o c)) := by
  cases h : costW (wayFrom o cs) with
  | some b =>
    obtain ⟨⟨c, hc, hoc⟩, low⟩ := from_some h
    symm
    rw [minL_some]
    refine ⟨List.mem_map.mpr ⟨c, hc, hoc⟩, fun b' hb' => ?_⟩
    obtain ⟨d, hd, hod⟩ := List.mem_map.mp hb'
    exact low d hd b' hod
  | none =>
    cases h2 : minL (cs.map fun c => costW (o c)) with
    | none => rfl
    | some b =>
      obtain ⟨c, hc, hoc⟩ := List.mem_map.mp (minL_some.mp h2).1
      obtain ⟨b', hb', _⟩ := from_le hc hoc
      rw [h] at hb'
      cases hb'
/-! ### edges -/
abbrev Edge := Nat × Str × List Nat
def edgesF (c : Str) : Nat → List Nat → List Ent → List Edge
  | k, btw, [] => [(k, c, btw)]
  | k, btw, e :: rest => (if c ∈ e.rs then [(k, c, btw)] else []) ++ edgesF c (k + 1) (if c ∈ e.ws then btw ++ [k] else btw) rest
def prAt (es : List Ent) (k : Nat) : Cost := match es[k]? with
  | some e => e.pr
  | none => none
def total : List Cost → Cost
  | [] => some 0
  | x :: l => addC x (total l)
theorem total_app : ∀ l m : List Cost, total (l ++ m) = addC (total l) (total m)
  | [], m => (addC_zero _).symm
  | x :: l, m => by
    show addC x (total (l ++ m)) = addC (addC x (total l)) (total m)
    rw [total_app l m, addC_assoc]
/-- what is paid from the entry at k on -/
def labAt (es : List Ent) (k : Nat) : Cost := match es[k]? with
  | some e => if e.isW then costW (wayFrom (onB (es.drop (k + 1))) e.ws) else some 0
  | none => some 0
def edgeC (es : List Ent) (x : Edge) : Cost := addC (total (x.2.2.map (prAt es))) (labAt es x.1)
theorem cost_reads (e : Ent) (w : Way) (o : Str → Way) (c : Str) : costW (readers e w o c) = if c ∈ e.rs then minC (costW w) (costW (o c)) else costW (o c) := by
  unfold readers
  by_cases hc : c ∈ e.rs
  · rw [if_pos hc, if_pos hc]
    match w with
    | none => rfl
    | some (k, p) =>
      show costW (better _ (o c)) = _
      rw [cost_better]
      show _ = minC (some k) _
      cases costW (o c) <;> rfl
  · rw [if_neg hc, if_neg hc]
theorem cost_past_add (pr : Option Int) (w : Way) : costW (past pr w) = addC pr (costW w) := by
  match w, pr with
  | none, none => rfl
  | none, some i => rfl
  | some (k, p), none => rfl
  | some (k, p), some i =>
    show some (k + i) = some (i + k)
    rw [Int.add_comm]
def labE (e : Ent) (rest : List Ent) : Cost := if e.isW then costW (wayFrom (onB rest) e.ws) else some 0
def blkE (e : Ent) (rest : List Ent) (c : Str) : Cost := if c ∈ e.ws then addC e.pr (costW (onB rest c)) else costW (onB rest c)
theorem cost_on (e : Ent) (rest : List Ent) (c : Str) : costW (onB (e :: rest) c) = if c ∈ e.rs then minC (labE e rest) (blkE e rest c) else blkE e rest c := by
  cases e with
  | wr id rs ws pr =>
    have hb : costW (blocked (.wr id rs ws pr) (onB rest) c) = blkE (.wr id rs ws pr) rest c := by
      unfold blocked blkE
      by_cases hc : c ∈ (Ent.wr id rs ws pr).ws
      · rw [if_pos hc, if_pos hc]
        exact cost_past_add _ _
      · rw [if_neg hc, if_neg hc]
    rw [← hb]
    exact cost_reads _ _ _ _
  | qu id cs =>
    have hb : costW (onB rest c) = blkE (.qu id cs) rest c := by
      unfold blkE
      rw [if_neg (by intro z; cases z)]
    rw [← hb]
    exact cost_reads (.qu id cs) (some (0, [])) (onB rest) c
theorem edges_min (es : List Ent) (c : Str) : ∀ (rest : List Ent) (k : Nat) (btw : List Nat), es.drop k = rest → minL ((edgesF c k btw rest).map (edgeC es)) = addC (total (btw.map (prAt es))) (costW (onB rest c))
  | [], k, btw, h => by
    have hk : es[k]? = none := by
      rw [List.getElem?_eq_none]
      have := congrArg List.length h
      rw [List.length_drop] at this
      simp at this
      omega
    show minC (edgeC es (k, c, btw)) none = _
    rw [minC_none]
    unfold edgeC labAt
    rw [hk]
    rfl
  | e :: rest, k, btw, h => by
    have hlt : k < es.length := by
      rcases Nat.lt_or_ge k es.length with h1 | h1
      · exact h1
      · rw [List.drop_eq_nil_of_le h1] at h; cases h
    rw [List.drop_eq_getElem_cons hlt] at h
    obtain ⟨he, hr⟩ := List.cons.inj h
    have hk : es[k]? = some e := by rw [List.getElem?_eq_getElem hlt, he]
    have ih := edges_min es c rest (k + 1) (if c ∈ e.ws then btw ++ [k] else btw) hr
    have hl : edgeC es (k, c, btw) = addC (total (btw.map (prAt es))) (labE e rest) := by
      unfold edgeC labAt labE
      rw [hk, hr]
    have hb : addC (total ((if c ∈ e.ws then btw ++ [k] else btw).map (prAt es))) (costW (onB rest c)) = addC (total (btw.map (prAt es))) (blkE e rest c) := by
      unfold blkE
      by_cases hc : c ∈ e.ws
      · rw [if_pos hc, if_pos hc, List.map_append, total_app, addC_assoc]
        congr 1
        show addC (addC (prAt es k) (some 0)) _ = _
        rw [addC_comm (prAt es k), addC_zero]
        unfold prAt
        rw [hk]
      · rw [if_neg hc, if_neg hc]
    rw [hb] at ih
    rw [cost_on]
    show minL (((if c ∈ e.rs then [(k, c, btw)] else []) ++ edgesF c (k + 1) (if c ∈ e.ws then btw ++ [k] else btw) rest).map (edgeC es)) = _
    rw [List.map_append, minL_app, ih]
    by_cases hc : c ∈ e.rs
    · rw [if_pos hc, if_pos hc, addC_min]
      congr 1
      show minC (edgeC es (k, c, btw)) none = _
      rw [minC_none, hl]
    · rw [if_neg hc, if_neg hc]
      rfl
def edgesL (es : List Ent) (one : Nat) : List Edge := match es[one]? with
  | some e => e.ws.flatMap fun c => edgesF c (one + 1) [] (es.drop (one + 1))
  | none => []
theorem edgesL_min {es : List Ent} {one : Nat} {e : Ent} (h : es[one]? = some e) : minL ((edgesL es one).map (edgeC es)) = costW (wayFrom (onB (es.drop (one + 1))) e.ws) := by
  unfold edgesL
  rw [h, from_min]
  dsimp only
  generalize e.ws = cs
  induction cs with
  | nil => rfl
  | cons c cs ih =>
    rw [List.flatMap_cons, List.map_append, minL_app, ih, List.map_cons]
    show _ = minC _ (minL (cs.map _))
    congr 1
    rw [edges_min es c _ _ _ rfl]
    exact addC_zero _
/-- what the loop makes of an edge -/
theorem total_none {l : List Cost} (h : none ∈ l) : total l = none := by
  induction l with
  | nil => cases h
  | cons x l ih =>
    show addC x (total l) = none
    rcases List.mem_cons.mp h with z | z
    · rw [← z]; rfl
    · rw [ih z]; cases x <;> rfl
theorem total_sum : ∀ {l : List Int}, total (l.map some) = some l.sum
  | [] => rfl
  | x :: l => by
    show addC (some x) (total (l.map some)) = _
    rw [total_sum]
    rfl
end NV
/-! Pos -/
set_option Elab.async false
set_option linter.all false
set_option maxRecDepth 100000
set_option maxHeartbeats 600000
/-! edges by positions; all paths edge by edge; the offers of edges -/
namespace NV
open PySem PySem.Spec PyProof.Rows L2
def wrAt (es : List Ent) (c : Str) (k : Nat) : Bool := match es[k]? with
  | some e => decide (c ∈ e.ws)
  | none => false
/-- the positions from k on, ahead of j, that write c -/
def wposs (es : List Ent) (c : Str) (k j : Nat) : List Nat := (List.range' k (j - k)).filter (wrAt es c)
theorem wposs_nil (es : List Ent) (c : Str) (k : Nat) : wposs es c k k = [] := by
  unfold wposs
  rw [Nat.sub_self]
  rfl
theorem wposs_succ {es : List Ent} {c : Str} {k j : Nat} {e : Ent} (he : es[k]? = some e) (h : k < j) : wposs es c k j = (if c ∈ e.ws then [k] else []) ++ wposs es c (k + 1) j := by
  unfold wposs
  rw [show j - k = (j - (k + 1)) + 1 by omega, List.range'_succ, List.filter_cons]
  have : wrAt es c k = decide (c ∈ e.ws) := by
    unfold wrAt
    rw [he]
  rw [this]
  by_cases hc : c ∈ e.ws
  · rw [decide_eq_true hc, if_pos rfl, if_pos hc]
    rfl
  · rw [decide_eq_false hc, if_neg Bool.false_ne_true, if_neg hc]
    rfl
theorem wposs_ok {es : List Ent} {c : Str} {k j b : Nat} (h : b ∈ wposs es c k j) : k ≤ b ∧ b < j ∧ ∃ e, es[b]? = some e ∧ c ∈ e.ws := by
  unfold wposs at h
  obtain ⟨h1, h2⟩ := List.mem_filter.mp h
  have := List.mem_range'_1.mp h1
  unfold wrAt at h2
  cases he : es[b]? with
  | none => rw [he] at h2; cases h2
  | some e => rw [he] at h2; exact ⟨by omega, by omega, e, rfl, of_decide_eq_true h2⟩
def readAt (es : List Ent) (c : Str) (j : Nat) : Prop := j = es.length ∨ ∃ e, es[j]? = some e ∧ c ∈ e.rs
theorem edgesF_iff {es : List Ent} {c : Str} : ∀ (rest : List Ent) (k : Nat) (btw : List Nat), k ≤ es.length → es.drop k = rest → ∀ x, x ∈ edgesF c k btw rest ↔ ∃ j, k ≤ j ∧ j ≤ es.length ∧ readAt es c j ∧ x = (j, c, btw ++ wposs es c k j)
  | [], k, btw, hk, h, x => by
    have e : k = es.length := by
      have : es.length ≤ k := List.drop_eq_nil_iff.mp h
      omega
    subst e
    show x ∈ [(es.length, c, btw)] ↔ _
    rw [List.mem_singleton]
    constructor
    · rintro rfl
      exact ⟨_, Nat.le_refl _, Nat.le_refl _, .inl rfl, by rw [wposs_nil, List.append_nil]⟩
    · rintro ⟨j, h1, h2, _, rfl⟩
      obtain rfl : j = es.length := by omega
      rw [wposs_nil, List.append_nil]
  | e :: rest, k, btw, hk, h, x => by
    have hlt : k < es.length := by
      rcases Nat.lt_or_ge k es.length with h1 | h1
      · exact h1
      · rw [List.drop_eq_nil_of_le h1] at h; cases h
    rw [List.drop_eq_getElem_cons hlt] at h
    obtain ⟨he, hr⟩ := List.cons.inj h
    have hk1 : es[k]? = some e := by rw [List.getElem?_eq_getElem hlt, he]
    have ih := edgesF_iff (c := c) rest (k + 1) (if c ∈ e.ws then btw ++ [k] else btw) hlt hr x
    show x ∈ (if c ∈ e.rs then [(k, c, btw)] else []) ++ edgesF c (k + 1) (if c ∈ e.ws then btw ++ [k] else btw) rest ↔ _
    have cat : ∀ j, k < j → (if c ∈ e.ws then btw ++ [k] else btw) ++ wposs es c (k + 1) j = btw ++ wposs es c k j := fun j hj => by
      rw [wposs_succ hk1 hj]
      by_cases hc : c ∈ e.ws
      · rw [if_pos hc, if_pos hc, List.append_assoc]
      · rw [if_neg hc, if_neg hc]
        rfl
    rw [List.mem_append, ih]
    constructor
    · rintro (z | ⟨j, h1, h2, h3, rfl⟩)
      · by_cases hc : c ∈ e.rs
        · rw [if_pos hc] at z
          rw [List.mem_singleton.mp z]
          exact ⟨k, Nat.le_refl _, hk, .inr ⟨e, hk1, hc⟩, by rw [wposs_nil, List.append_nil]⟩
        · rw [if_neg hc] at z; cases z
      · exact ⟨j, by omega, h2, h3, by rw [cat j (by omega)]⟩
    · rintro ⟨j, h1, h2, h3, rfl⟩
      rcases Nat.lt_or_ge k j with hj | hj
      · exact .inr ⟨j, hj, h2, h3, by rw [cat j hj]⟩
      · obtain rfl : j = k := by omega
        rcases h3 with h3 | ⟨e', he', hc⟩
        · omega
        · rw [hk1] at he'
          obtain rfl := Option.some.inj he'
          rw [if_pos hc, wposs_nil, List.append_nil]
          exact .inl (List.mem_singleton.mpr rfl)
theorem edgesL_iff {es : List Ent} {one : Nat} {e : Ent} (he : es[one]? = some e) (x : Edge) : x ∈ edgesL es one ↔ ∃ c ∈ e.ws, ∃ j, one + 1 ≤ j ∧ j ≤ es.length ∧ readAt es c j ∧ x = (j, c, wposs es c (one + 1) j) := by
  have hi := (List.getElem?_eq_some_iff.mp he).1
  unfold edgesL
  rw [he, List.mem_flatMap]
  constructor
  · rintro ⟨c, hc, h⟩
    exact ⟨c, hc, by simpa using (edgesF_iff (es.drop (one + 1)) (one + 1) [] hi rfl x).mp h⟩
  · rintro ⟨c, hc, h⟩
    exact ⟨c, hc, (edgesF_iff (es.drop (one + 1)) (one + 1) [] hi rfl x).mpr (by simpa using h)⟩
theorem wposs_blk {es : List Ent} {c : Str} : ∀ (m k j : Nat), j - k = m → j ≤ es.length → (Priced (blkP es k j c) → total ((wposs es c k j).map (prAt es)) = some (sumP (blkP es k j c))) ∧ (¬ Priced (blkP es k j c) → total ((wposs es c k j).map (prAt es)) = none)
  | 0, k, j, hm, hj => by
    have e1 : blkP es k j c = [] := by unfold blkP; rw [hm]; rfl
    have e2 : wposs es c k j = [] := by unfold wposs; rw [hm]; rfl
    rw [e1, e2]
    exact ⟨fun _ => rfl, fun h => absurd (fun _ hu => by cases hu) h⟩
  | m + 1, k, j, hm, hj => by
    obtain ⟨e, he⟩ : ∃ e, es[k]? = some e := ⟨_, List.getElem?_eq_getElem (by omega)⟩
    obtain ⟨h1, h2⟩ := wposs_blk (es := es) (c := c) m (k + 1) j (by omega) hj
    rw [blkP_succ he (by omega), wposs_succ he (by omega)]
    by_cases hc : c ∈ e.ws
    · rw [if_pos hc, if_pos hc]
      have pe : prAt es k = e.pr := by
        unfold prAt
        rw [he]
      show (Priced (e :: blkP es (k + 1) j c) → addC (prAt es k) (total ((wposs es c (k + 1) j).map (prAt es))) = _) ∧ (¬ Priced (e :: blkP es (k + 1) j c) → addC (prAt es k) (total ((wposs es c (k + 1) j).map (prAt es))) = _)
      rw [pe]
      constructor
      · intro hp
        cases ha : e.pr with
        | none => exact absurd ha (hp e List.mem_cons_self)
        | some a =>
          rw [h1 fun u hu => hp u (List.mem_cons_of_mem _ hu)]
          show some (a + sumP (blkP es (k + 1) j c)) = some ((e.pr.getD 0) + sumP (blkP es (k + 1) j c))
          rw [ha]
          rfl
      · intro hp
        cases ha : e.pr with
        | none => rfl
        | some a =>
          rw [h2 fun g => hp fun u hu => (List.mem_cons.mp hu).elim (fun z => by rw [z, ha]; simp) (g u)]
          rfl
    · rw [if_neg hc, if_neg hc]
      exact ⟨h1, h2⟩
/-! ### offers -/
def nmAt (es : List Ent) (k : Nat) : Str := match es[k]? with
  | some e => e.id
  | none => ""
/-- the way from the entry at k on; from a reader that ends a path, nothing -/
def restAt (es : List Ent) (k : Nat) : Way := match es[k]? with
  | some e => if e.isW then wayFrom (onB (es.drop (k + 1))) e.ws else some (0, [])
  | none => some (0, [])
def offerE (es : List Ent) (x : Edge) : Way := match total (x.2.2.map (prAt es)), restAt es x.1 with
  | some s, some r => some (s + r.1, (nmAt es x.1, x.2.1) :: r.2)
  | _, _ => none
def takeW (acc offer : Way) : Way := match offer with
  | none => acc
  | some o => better o acc
theorem least_take {S : Int × Path → Prop} {acc : Way} (o : Way) (h : Least S acc) : Least (fun y => S y ∨ o = some y) (takeW acc o) := by
  match o with
  | none => exact h.same fun x => ⟨.inl, fun h => h.elim id fun h => by cases h⟩
  | some o => exact (least_better o h).same fun x => ⟨fun h => h.elim (fun h => .inr (by rw [h])) .inl, fun h => h.elim .inr fun h => .inl (Option.some.inj h).symm⟩
theorem least_takes (f : Edge → Way) : ∀ (l : List Edge) (acc : Way) (S : Int × Path → Prop), Least S acc → Least (fun y => S y ∨ ∃ x ∈ l, f x = some y) ((l.map f).foldl takeW acc)
  | [], acc, S, h => h.same fun y => ⟨.inl, fun h => h.elim id fun ⟨x, hx, _⟩ => by cases hx⟩
  | x :: l, acc, S, h => by
    rw [List.map_cons, List.foldl_cons]
    refine (least_takes f l _ _ (least_take (f x) h)).same fun y => ?_
    constructor
    · rintro ((h | h) | ⟨z, hz, h⟩)
      · exact .inl h
      · exact .inr ⟨x, List.mem_cons_self, h⟩
      · exact .inr ⟨z, List.mem_cons_of_mem _ hz, h⟩
    · rintro (h | ⟨z, hz, h⟩)
      · exact .inl (.inl h)
      · rcases List.mem_cons.mp hz with rfl | hz
        · exact .inl (.inr h)
        · exact .inr ⟨z, hz, h⟩
/-- the best of the offers is the way -/
theorem offers_way {es : List Ent} {one : Nat} {e : Ent} (he : es[one]? = some e) : ((edgesL es one).map (offerE es)).foldl takeW none = wayFrom (onB (es.drop (one + 1))) e.ws := by
  have h0 : Least (fun _ : Int × Path => False) none := fun _ h => h
  refine Least.one ((least_takes (offerE es) (edgesL es one) none _ h0).few (T := pathsAt es one) (fun y hy => ?_) fun y hy => ?_) (way_least he)
  · obtain ⟨x, hx, hy⟩ := hy.resolve_left id
    obtain ⟨c, hc, j, hj1, hj2, hr, rfl⟩ := (edgesL_iff he x).mp hx
    refine ⟨e, he, c, hc, ?_⟩
    have hb := wposs_blk (es := es) (c := c) _ (one + 1) j rfl hj2
    unfold offerE at hy
    dsimp only at hy
    by_cases hp : Priced (blkP es (one + 1) j c)
    · rw [hb.1 hp] at hy
      cases hrest : restAt es j with
      | none => rw [hrest] at hy; cases hy
      | some r =>
        rw [hrest] at hy
        obtain rfl := Option.some.inj hy
        rcases hr with rfl | ⟨e', he', hcr⟩
        · have hn : es[es.length]? = none := List.getElem?_eq_none (Nat.le_refl _)
          have e1 : restAt es es.length = some (0, []) := by unfold restAt; rw [hn]
          rw [e1] at hrest
          obtain rfl := Option.some.inj hrest
          have e2 : nmAt es es.length = "" := by unfold nmAt; rw [hn]
          rw [e2]
          refine ⟨blkP es (one + 1) es.length c, ?_⟩
          show PathOk es (one + 1) c (sumP _ + 0) _ _
          rw [Int.add_zero]
          exact .fin hj1 hp
        · have e2 : nmAt es j = e'.id := by unfold nmAt; rw [he']
          rw [e2]
          have e1 : restAt es j = if e'.isW then wayFrom (onB (es.drop (j + 1))) e'.ws else some (0, []) := by unfold restAt; rw [he']
          rw [e1] at hrest
          cases hw : e'.isW with
          | false =>
            rw [hw, if_neg Bool.false_ne_true] at hrest
            obtain rfl := Option.some.inj hrest
            refine ⟨blkP es (one + 1) j c, ?_⟩
            show PathOk es (one + 1) c (sumP _ + 0) _ _
            rw [Int.add_zero]
            exact .query hj1 he' hw hcr hp
          | true =>
            rw [hw, if_pos rfl] at hrest
            have := way_least he'
            rw [hrest] at this
            obtain ⟨e3, he3, c', hc', bs, hr'⟩ := this.1
            rw [he'] at he3
            obtain rfl := Option.some.inj he3
            exact ⟨_, .read hj1 he' hw hcr hp hc' hr'⟩
    · rw [hb.2 hp] at hy
      cases hy
  · obtain ⟨e', he', c, hc, bs, hr⟩ := hy
    rw [he] at he'
    obtain rfl := Option.some.inj he'
    have mk : ∀ (j : Nat) (r : Int × Path), one + 1 ≤ j → j ≤ es.length → readAt es c j → Priced (blkP es (one + 1) j c) → restAt es j = some r → ∃ x ∈ edgesL es one, offerE es x = some (sumP (blkP es (one + 1) j c) + r.1, (nmAt es j, c) :: r.2) := by
      intro j r h1 h2 h3 hp hrest
      refine ⟨(j, c, wposs es c (one + 1) j), (edgesL_iff he _).mpr ⟨c, hc, j, h1, h2, h3, rfl⟩, ?_⟩
      unfold offerE
      dsimp only
      rw [(wposs_blk (es := es) (c := c) _ (one + 1) j rfl h2).1 hp, hrest]
    obtain ⟨k, p⟩ := y
    cases hr with
    | fin hi hp =>
      have hn : es[es.length]? = none := List.getElem?_eq_none (Nat.le_refl _)
      obtain ⟨x, hx, ho⟩ := mk es.length (0, []) hi (Nat.le_refl _) (.inl rfl) hp (by unfold restAt; rw [hn])
      refine ⟨_, .inr ⟨x, hx, ho⟩, ?_⟩
      have e2 : nmAt es es.length = "" := by unfold nmAt; rw [hn]
      rw [e2]
      show wLt _ (sumP _ + 0, _) = false
      rw [Int.add_zero]
      exact sto_way.irr _
    | @query i j e' c hij he' hw hcr hp =>
      have hj := (List.getElem?_eq_some_iff.mp he').1
      obtain ⟨x, hx, ho⟩ := mk j (0, []) hij (by omega) (.inr ⟨e', he', hcr⟩) hp (by unfold restAt; rw [he']; dsimp only; rw [hw]; rfl)
      refine ⟨_, .inr ⟨x, hx, ho⟩, ?_⟩
      have e2 : nmAt es j = e'.id := by unfold nmAt; rw [he']
      rw [e2]
      show wLt _ (sumP _ + 0, _) = false
      rw [Int.add_zero]
      exact sto_way.irr _
    | @read i j e' c c' k' p' bs' hij he' hw hcr hp hc' hr' =>
      have hj := (List.getElem?_eq_some_iff.mp he').1
      have hl := way_least he'
      cases hway : wayFrom (onB (es.drop (j + 1))) e'.ws with
      | none =>
        rw [hway] at hl
        exact absurd ⟨e', he', c', hc', bs', hr'⟩ (hl (k', p'))
      | some r =>
        rw [hway] at hl
        obtain ⟨x, hx, ho⟩ := mk j r hij (by omega) (.inr ⟨e', he', hcr⟩) hp (by unfold restAt; rw [he']; dsimp only; rw [hw]; exact hway)
        refine ⟨_, .inr ⟨x, hx, ho⟩, ?_⟩
        have e2 : nmAt es j = e'.id := by unfold nmAt; rw [he']
        rw [e2]
        have := hl.2 (k', p') ⟨e', he', c', hc', bs', hr'⟩
        show wLt (sumP (blkP es (one + 1) j c) + k', (e'.id, c) :: p') (sumP (blkP es (one + 1) j c) + r.1, (e'.id, c) :: r.2) = false
        rw [wLt_step]
        exact this
/-! ### all paths -/
abbrev AP := Int × Path × List Nat
/-- does the entry at k end a path -/
def endsAt (es : List Ent) (k : Nat) : Bool := match es[k]? with
  | some e => !e.isW
  | none => true
def pathsE (es : List Ent) (go : Nat → List AP) (x : Edge) : List AP := match total (x.2.2.map (prAt es)) with
  | none => []
  | some s => if endsAt es x.1 then [(s, [(nmAt es x.1, x.2.1)], x.2.2)] else (go x.1).map fun y => (s + y.1, (nmAt es x.1, x.2.1) :: y.2.1, x.2.2 ++ y.2.2)
def pathsF (es : List Ent) : Nat → Nat → List AP
  | 0, _ => []
  | n + 1, one => (edgesL es one).flatMap (pathsE es (pathsF es n))
/-- a path with the positions of its blockers -/
inductive PathPs (es : List Ent) : Nat → Str → Int → Path → List Nat → Prop
  | fin {i : Nat} {c : Str} (hi : i ≤ es.length) (h : Priced (blkP es i es.length c)) : PathPs es i c (sumP (blkP es i es.length c)) [("", c)] (wposs es c i es.length)
  | query {i j : Nat} {e : Ent} {c : Str} (hij : i ≤ j) (he : es[j]? = some e) (hw : e.isW = false) (hc : c ∈ e.rs) (h : Priced (blkP es i j c)) : PathPs es i c (sumP (blkP es i j c)) [(e.id, c)] (wposs es c i j)
  | read {i j : Nat} {e : Ent} {c c' : Str} {k : Int} {p : Path} {bs : List Nat} (hij : i ≤ j) (he : es[j]? = some e) (hw : e.isW = true) (hc : c ∈ e.rs) (h : Priced (blkP es i j c)) (hc' : c' ∈ e.ws) (r : PathPs es (j + 1) c' k p bs) :
      PathPs es i c (sumP (blkP es i j c) + k) ((e.id, c) :: p) (wposs es c i j ++ bs)
theorem PathPs.ok {es : List Ent} {i : Nat} {c : Str} {k : Int} {p : Path} {bs : List Nat} (h : PathPs es i c k p bs) : ∃ l, PathOk es i c k p l := by
  induction h with
  | fin hi h => exact ⟨_, .fin hi h⟩
  | query hij he hw hc h => exact ⟨_, .query hij he hw hc h⟩
  | read hij he hw hc h hc' r ih => exact ih.elim fun l hl => ⟨_, .read hij he hw hc h hc' hl⟩
theorem PathOk.ps {es : List Ent} {i : Nat} {c : Str} {k : Int} {p : Path} {l : List Ent} (h : PathOk es i c k p l) : ∃ bs, PathPs es i c k p bs := by
  induction h with
  | fin hi h => exact ⟨_, .fin hi h⟩
  | query hij he hw hc h => exact ⟨_, .query hij he hw hc h⟩
  | read hij he hw hc h hc' r ih => exact ih.elim fun l hl => ⟨_, .read hij he hw hc h hc' hl⟩
theorem paths_iff {es : List Ent} : ∀ (n one : Nat) (e : Ent), es[one]? = some e → es.length - one ≤ n → ∀ x : AP, x ∈ pathsF es n one ↔ ∃ c ∈ e.ws, PathPs es (one + 1) c x.1 x.2.1 x.2.2
  | 0, one, e, he, hn, x => by
    have := (List.getElem?_eq_some_iff.mp he).1
    omega
  | n + 1, one, e, he, hn, x => by
    have hone := (List.getElem?_eq_some_iff.mp he).1
    show x ∈ (edgesL es one).flatMap (pathsE es (pathsF es n)) ↔ _
    rw [List.mem_flatMap]
    constructor
    · rintro ⟨y, hy, hx⟩
      obtain ⟨c, hc, j, hj1, hj2, hr, rfl⟩ := (edgesL_iff he y).mp hy
      refine ⟨c, hc, ?_⟩
      have hb := wposs_blk (es := es) (c := c) _ (one + 1) j rfl hj2
      unfold pathsE at hx
      dsimp only at hx
      by_cases hp : Priced (blkP es (one + 1) j c)
      · rw [hb.1 hp] at hx
        dsimp only at hx
        rcases hr with rfl | ⟨e', he', hcr⟩
        · have hn' : es[es.length]? = none := List.getElem?_eq_none (Nat.le_refl _)
          have e1 : endsAt es es.length = true := by unfold endsAt; rw [hn']
          have e2 : nmAt es es.length = "" := by unfold nmAt; rw [hn']
          rw [e1, e2, if_pos rfl] at hx
          rw [List.mem_singleton.mp hx]
          exact .fin hj1 hp
        · have e1 : endsAt es j = !e'.isW := by unfold endsAt; rw [he']
          have e2 : nmAt es j = e'.id := by unfold nmAt; rw [he']
          rw [e1, e2] at hx
          cases hw : e'.isW with
          | false =>
            rw [hw] at hx
            rw [if_pos (by rfl)] at hx
            rw [List.mem_singleton.mp hx]
            exact .query hj1 he' hw hcr hp
          | true =>
            rw [hw] at hx
            rw [if_neg (by decide)] at hx
            obtain ⟨y, hy, rfl⟩ := List.mem_map.mp hx
            obtain ⟨c', hc', r⟩ := (paths_iff n j e' he' (by omega) y).mp hy
            exact .read hj1 he' hw hcr hp hc' r
      · rw [hb.2 hp] at hx
        cases hx
    · rintro ⟨c, hc, hr⟩
      obtain ⟨k, p, bs⟩ := x
      have edge : ∀ j, one + 1 ≤ j → j ≤ es.length → readAt es c j → (j, c, wposs es c (one + 1) j) ∈ edgesL es one := fun j h1 h2 h3 => (edgesL_iff he _).mpr ⟨c, hc, j, h1, h2, h3, rfl⟩
      cases hr with
      | fin hi hp =>
        refine ⟨_, edge es.length hi (Nat.le_refl _) (.inl rfl), ?_⟩
        have hn' : es[es.length]? = none := List.getElem?_eq_none (Nat.le_refl _)
        have e1 : endsAt es es.length = true := by unfold endsAt; rw [hn']
        have e2 : nmAt es es.length = "" := by unfold nmAt; rw [hn']
        unfold pathsE
        dsimp only
        rw [(wposs_blk (es := es) (c := c) _ (one + 1) es.length rfl (Nat.le_refl _)).1 hp]
        dsimp only
        rw [e1, e2, if_pos rfl]
        exact List.mem_singleton.mpr rfl
      | @query i j e' c hij he' hw hcr hp =>
        have hj := (List.getElem?_eq_some_iff.mp he').1
        refine ⟨_, edge j hij (by omega) (.inr ⟨e', he', hcr⟩), ?_⟩
        have e1 : endsAt es j = !e'.isW := by unfold endsAt; rw [he']
        have e2 : nmAt es j = e'.id := by unfold nmAt; rw [he']
        unfold pathsE
        dsimp only
        rw [(wposs_blk (es := es) (c := c) _ (one + 1) j rfl (by omega)).1 hp]
        dsimp only
        rw [e1, e2, hw, if_pos (by rfl)]
        exact List.mem_singleton.mpr rfl
      | @read i j e' c c' k' p' bs' hij he' hw hcr hp hc' hr' =>
        have hj := (List.getElem?_eq_some_iff.mp he').1
        refine ⟨_, edge j hij (by omega) (.inr ⟨e', he', hcr⟩), ?_⟩
        have e1 : endsAt es j = !e'.isW := by unfold endsAt; rw [he']
        have e2 : nmAt es j = e'.id := by unfold nmAt; rw [he']
        unfold pathsE
        dsimp only
        rw [(wposs_blk (es := es) (c := c) _ (one + 1) j rfl (by omega)).1 hp]
        dsimp only
        rw [e1, e2, hw, if_neg (by decide)]
        exact List.mem_map.mpr ⟨(k', p', bs'), (paths_iff n j e' he' (by omega) _).mpr ⟨c', hc', hr'⟩, rfl⟩
/-- the least of all paths is the way -/
theorem paths_least {es : List Ent} {n one : Nat} {e : Ent} (he : es[one]? = some e) (hn : es.length - one ≤ n) : Least (fun y => y ∈ (pathsF es n one).map fun x => (x.1, x.2.1)) (wayFrom (onB (es.drop (one + 1))) e.ws) := by
  refine (way_least he).same fun y => ?_
  constructor
  · rintro ⟨e', he', c, hc, bs, hr⟩
    rw [he] at he'
    obtain rfl := Option.some.inj he'
    obtain ⟨ps, r⟩ := hr.ps
    exact List.mem_map.mpr ⟨(y.1, y.2, ps), (paths_iff n one e he hn _).mpr ⟨c, hc, r⟩, rfl⟩
  · intro h
    obtain ⟨x, hx, rfl⟩ := List.mem_map.mp h
    obtain ⟨c, hc, r⟩ := (paths_iff n one e he hn x).mp hx
    obtain ⟨l, hl⟩ := r.ok
    exact ⟨e, he, c, hc, l, hl⟩
end NV
/-! Inv8 -/
set_option Elab.async false
set_option linter.all false
set_option maxRecDepth 100000
set_option maxHeartbeats 600000
/-! what is taken for a path is one; a path's blockers by their positions -/
namespace NV
open PySem PySem.Spec PyProof.Rows L2
theorem posS_is {es : List Ent} {z : Str} {k : Nat} (h : posS es z = some k) : (z = "" ∧ k = es.length) ∨ ∃ e, es[k]? = some e ∧ e.id = z := by
  unfold posS at h
  by_cases hz : z = ""
  · rw [if_pos hz] at h
    exact .inl ⟨hz, (Option.some.inj h).symm⟩
  · rw [if_neg hz] at h
    obtain ⟨i, e, h1, h2, h3⟩ := posG_is h
    obtain rfl : k = i := by omega
    exact .inr ⟨e, h2, h3⟩
theorem step_at (es : List Ent) (i : Nat) (l : List Ent) (d : PyData) : stepP es (some (i, l)) d = match readerP es i d with
    | none => none
    | some k => if ((betw es i k (cellOf d)).any fun e => e.pr.isNone) = true then none else some (k, l ++ betw es i k (cellOf d)) := rfl
theorem step_end {es : List Ent} {l : List Ent} (d : PyData) : stepP es (some (es.length, l)) d = none := by
  cases h : readerP es es.length d with
  | some k =>
    obtain ⟨r, c, _, h1, h2⟩ := reader_tup h
    omega
  | none =>
    rw [step_at, h]
theorem step_query {es : List Ent} {l : List Ent} {j : Nat} {e : Ent} (he : es[j]? = some e) (hw : e.isW = false) (d : PyData) : stepP es (some (j, l)) d = none := by
  cases h : readerP es j d with
  | none =>
    rw [step_at, h]
  | some k =>
    obtain ⟨r, c, rfl, h1, h2⟩ := reader_tup h
    have h : (match posD es r with | some k => if j < k ∧ edgeD es j k (.str c) = true then some k else none | none => none) = some k := h
    cases hp : posD es r with
    | none => rw [hp] at h; cases h
    | some k2 =>
      rw [hp] at h
      dsimp only at h
      by_cases hc : j < k2 ∧ edgeD es j k2 (.str c) = true
      · have h3 := hc.2
        have h3 : (decide (c ∈ wsAt es j) && rsAt es k2 c) = true := h3
        rw [Bool.and_eq_true] at h3
        have h4 : c ∈ wsAt es j := of_decide_eq_true h3.1
        unfold wsAt at h4
        rw [he] at h4
        cases e with
        | wr _ _ _ _ => cases hw
        | qu _ _ => cases h4
      · rw [if_neg hc] at h
        cases h
theorem fold_path {es : List Ent} : ∀ (ds : List PyData) (i m : Nat) (e : Ent) (l l' : List Ent), es[i]? = some e → e.isW = true → ds.foldl (stepP es) (some (i, l)) = some (m, l') → writeAt es m = false → ∃ (p : Path) (c : Str) (k : Int) (bs : List Ent), ds = p.map stepD ∧ c ∈ e.ws ∧ PathOk es (i + 1) c k p bs ∧ l' = l ++ bs
  | [], i, m, e, l, l', he, hw, h, hm => by
    obtain ⟨rfl, rfl⟩ := Prod.mk.inj (Option.some.inj h)
    unfold writeAt at hm
    rw [he] at hm
    dsimp only at hm
    rw [hw] at hm
    cases hm
  | d :: ds, i, m, e, l, l', he, hw, h, hm => by
    have hf : ds.foldl (stepP es) (stepP es (some (i, l)) d) = some (m, l') := h
    clear h
    cases hr : readerP es i d with
    | none =>
      have : stepP es (some (i, l)) d = none := by rw [step_at, hr]
      rw [this, fold_none] at hf
      cases hf
    | some k =>
      obtain ⟨r, c, rfl, h1, h2⟩ := reader_tup hr
      have hr2 : (match posD es r with | some k => if i < k ∧ edgeD es i k (.str c) = true then some k else none | none => none) = some k := hr
      have hst : stepP es (some (i, l)) (.tuple [r, .str c]) = if ((betw es i k c).any fun e => e.pr.isNone) = true then none else some (k, l ++ betw es i k c) := by
        rw [step_at, hr]
        rfl
      rw [hst] at hf
      by_cases hany : ((betw es i k c).any fun e => e.pr.isNone) = true
      · rw [if_pos hany, fold_none] at hf
        cases hf
      rw [if_neg hany] at hf
      have pr : Priced (blkP es (i + 1) k c) := fun u hu hn => hany (List.any_eq_true.mpr ⟨u, hu, by rw [hn]; rfl⟩)
      cases hp : posD es r with
      | none => rw [hp] at hr2; cases hr2
      | some k2 =>
      rw [hp] at hr2
      dsimp only at hr2
      have hc : i < k2 ∧ edgeD es i k2 (.str c) = true := by
        by_cases hc : i < k2 ∧ edgeD es i k2 (.str c) = true
        · exact hc
        · rw [if_neg hc] at hr2
          cases hr2
      rw [if_pos hc] at hr2
      obtain rfl := Option.some.inj hr2
      have h3 : (decide (c ∈ wsAt es i) && rsAt es k2 c) = true := hc.2
      rw [Bool.and_eq_true] at h3
      have h4 : c ∈ wsAt es i := of_decide_eq_true h3.1
      unfold wsAt at h4
      rw [he] at h4
      have h4 : c ∈ e.ws := h4
      cases r with
      | str z =>
        have hz : posS es z = some k2 := hp
        rcases posS_is hz with ⟨rfl, rfl⟩ | ⟨e', he', rfl⟩
        · cases ds with
          | nil =>
            obtain ⟨rfl, rfl⟩ := Prod.mk.inj (Option.some.inj hf)
            exact ⟨[("", c)], c, _, _, rfl, h4, .fin (by omega) pr, rfl⟩
          | cons d2 ds =>
            have h : ds.foldl (stepP es) (stepP es (some (es.length, l ++ betw es i es.length c)) d2) = some (m, l') := hf
            rw [step_end, fold_none] at h
            cases h
        · have hrs : c ∈ e'.rs := by
            have h5 := h3.2
            unfold rsAt at h5
            rw [he'] at h5
            exact of_decide_eq_true h5
          cases hw' : e'.isW with
          | false =>
            cases ds with
            | nil =>
              obtain ⟨rfl, rfl⟩ := Prod.mk.inj (Option.some.inj hf)
              exact ⟨[(e'.id, c)], c, _, _, rfl, h4, .query (by omega) he' hw' hrs pr, rfl⟩
            | cons d2 ds =>
              have h : ds.foldl (stepP es) (stepP es (some (k2, l ++ betw es i k2 c)) d2) = some (m, l') := hf
              rw [step_query he' hw', fold_none] at h
              cases h
          | true =>
            obtain ⟨p', c', k', bs', hd, hc', hp', hl⟩ := fold_path ds k2 m e' (l ++ betw es i k2 c) l' he' hw' hf hm
            refine ⟨(e'.id, c) :: p', c, _, _, by rw [hd]; rfl, h4, .read (by omega) he' hw' hrs pr hc' hp', ?_⟩
            rw [hl, List.append_assoc]
            rfl
      | _ => cases hp
/-- whatever is taken for a path of a write is one -/
theorem blkrs_path {es : List Ent} {i : Nat} {e : Ent} {d : PyData} {l : List Ent} (he : es[i]? = some e) (hw : e.isW = true) (h : blkrsP es i d = some l) : ∃ (p : Path) (c : Str) (k : Int), d = pathD p ∧ c ∈ e.ws ∧ PathOk es (i + 1) c k p l := by
  cases d with
  | tuple ds =>
    have h : (match ds.foldl (stepP es) (some (i, [])) with | some (k, l) => if writeAt es k = true then none else some l | none => none) = some l := h
    cases hf : ds.foldl (stepP es) (some (i, [])) with
    | none => rw [hf] at h; cases h
    | some x =>
      obtain ⟨m, l'⟩ := x
      rw [hf] at h
      dsimp only at h
      cases hm : writeAt es m with
      | true => rw [hm, if_pos rfl] at h; cases h
      | false =>
        rw [hm, if_neg Bool.false_ne_true] at h
        obtain rfl := Option.some.inj h
        obtain ⟨p, c, k, bs, hd, hc, hp, hl⟩ := fold_path ds i m e [] l' he hw hf hm
        rw [List.nil_append] at hl
        subst hl
        exact ⟨p, c, k, by rw [hd]; rfl, hc, hp⟩
  | _ => cases h
/-- a path is taken for one -/
theorem path_blkrs {es : List Ent} (ok : LogOk es) {i : Nat} {e : Ent} {c : Str} {k : Int} {p : Path} {bs : List Ent} (he : es[i]? = some e) (hc : c ∈ e.ws) (h : PathOk es (i + 1) c k p bs) : blkrsP es i (pathD p) = some bs := by
  obtain ⟨m, hm, hw⟩ := path_blk ok h i e [] rfl he hc
  show (match (p.map stepD).foldl (stepP es) (some (i, [])) with | some (k, l) => if writeAt es k = true then none else some l | none => none) = some bs
  rw [hm]
  dsimp only
  rw [hw, if_neg Bool.false_ne_true, List.nil_append]
/-! ### positions -/
def entsAt (es : List Ent) (ps : List Nat) : List Ent := ps.filterMap fun t => es[t]?
theorem entsAt_app (es : List Ent) (a b : List Nat) : entsAt es (a ++ b) = entsAt es a ++ entsAt es b := List.filterMap_append
theorem wposs_ents {es : List Ent} {c : Str} : ∀ (m k j : Nat), j - k = m → j ≤ es.length → entsAt es (wposs es c k j) = blkP es k j c
  | 0, k, j, hm, hj => by
    have e1 : blkP es k j c = [] := by unfold blkP; rw [hm]; rfl
    have e2 : wposs es c k j = [] := by unfold wposs; rw [hm]; rfl
    rw [e1, e2]
    rfl
  | m + 1, k, j, hm, hj => by
    obtain ⟨e, he⟩ : ∃ e, es[k]? = some e := ⟨_, List.getElem?_eq_getElem (by omega)⟩
    rw [blkP_succ he (by omega), wposs_succ he (by omega), entsAt_app, wposs_ents m (k + 1) j (by omega) hj]
    congr 1
    by_cases hc : c ∈ e.ws
    · rw [if_pos hc, if_pos hc]
      unfold entsAt
      rw [List.filterMap_cons, he]
      rfl
    · rw [if_neg hc, if_neg hc]
      rfl
theorem wposs_up (es : List Ent) (c : Str) (k j : Nat) : (wposs es c k j).Pairwise (· < ·) := by
  unfold wposs
  exact (List.pairwise_lt_range' (s := k) (n := j - k) (step := 1) (by decide)).filter _
theorem PathPs.ents {es : List Ent} {i : Nat} {c : Str} {k : Int} {p : Path} {ps : List Nat} (h : PathPs es i c k p ps) : PathOk es i c k p (entsAt es ps) ∧ (∀ t ∈ ps, i ≤ t ∧ t < es.length) ∧ ps.Pairwise (· < ·) := by
  induction h with
  | @fin i c hi h =>
    rw [wposs_ents _ _ _ rfl (Nat.le_refl _)]
    exact ⟨.fin hi h, fun t ht => ⟨(wposs_ok ht).1, (wposs_ok ht).2.1⟩, wposs_up _ _ _ _⟩
  | @query i j e c hij he hw hc h =>
    have hj := (List.getElem?_eq_some_iff.mp he).1
    rw [wposs_ents _ _ _ rfl (by omega)]
    exact ⟨.query hij he hw hc h, fun t ht => ⟨(wposs_ok ht).1, by have := (wposs_ok ht).2.1; omega⟩, wposs_up _ _ _ _⟩
  | @read i j e c c' k p bs hij he hw hc h hc' r ih =>
    have hj := (List.getElem?_eq_some_iff.mp he).1
    obtain ⟨i1, i2, i3⟩ := ih
    rw [entsAt_app, wposs_ents _ _ _ rfl (by omega)]
    refine ⟨.read hij he hw hc h hc' i1, fun t ht => ?_, ?_⟩
    · rcases List.mem_append.mp ht with z | z
      · exact ⟨(wposs_ok z).1, by have := (wposs_ok z).2.1; omega⟩
      · have := i2 t z
        exact ⟨by omega, this.2⟩
    · refine List.pairwise_append.mpr ⟨wposs_up _ _ _ _, i3, fun a ha b hb => ?_⟩
      have h1 := (wposs_ok ha).2.1
      have h2 := (i2 b hb).1
      omega
end NV
/-! Y3 -/
set_option Elab.async false
set_option linter.all false
set_option maxRecDepth 100000
set_option maxHeartbeats 1000000
/-! the law's _law_edges -/
namespace NV
open PySem PySem.Spec PyProof.Rows L2
open C8 (pss_cut pe_gc)
abbrev sLawEdges : Stmt := topS 55
theorem scLawEdges : FnScope ["entries", "one", "found", "spot", "between", "at"] ["entries", "one"] (defScope sLawEdges) := ⟨rfl, rfl, rfl, by decide +kernel, rfl, by decide +kernel, by decide +kernel⟩
def intD (k : Nat) : PyData := .int k
def edgeVD (x : Edge) : PyData := .tuple [.int x.1, .str x.2.1, .list (x.2.2.map intD)]
/-- the edges that are still to be found, from position k on -/
def edgesR (es : List Ent) (c : Str) (k : Nat) (btw : List Nat) : List Edge := if k ≤ es.length then edgesF c k btw (es.drop k) else []
theorem edgesR_end {es : List Ent} {c : Str} {k : Nat} {btw : List Nat} (h : k = es.length) : edgesR es c k btw = [(k, c, btw)] := by
  unfold edgesR
  rw [if_pos (by omega), h, List.drop_length]
  rfl
theorem edgesR_past {es : List Ent} {c : Str} {k : Nat} {btw : List Nat} (h : es.length < k) : edgesR es c k btw = [] := by
  unfold edgesR
  rw [if_neg (by omega)]
theorem edgesR_step {es : List Ent} {c : Str} {k : Nat} {btw : List Nat} {e : Ent} (h : es[k]? = some e) : edgesR es c k btw = (if c ∈ e.rs then [(k, c, btw)] else []) ++ edgesR es c (k + 1) (if c ∈ e.ws then btw ++ [k] else btw) := by
  obtain ⟨hk, he⟩ := List.getElem?_eq_some_iff.mp h
  unfold edgesR
  rw [if_pos (show k ≤ es.length by omega), if_pos (show k + 1 ≤ es.length by omega), List.drop_eq_getElem_cons hk, he]
  rfl
theorem ints_rp {ex : List Addr} {H : Hp} : ∀ l : List Nat, RpAll ex H (l.map intD) (l.map fun k => V.int (k : Nat))
  | [] => rfl
  | k :: l => ⟨_, _, rfl, rfl, ints_rp l⟩
theorem in_strs {K : PySem.W.Frag} {H : Hp} {a : Addr} {zs : List Str} {c : Str} {Q : VK} (ha : H a = some (.tup (zs.map V.str))) (q : Q (.bl (decide (c ∈ zs))) H) : rIn K false (.str c) (.ref a) H Q := by
  refine ⟨a, _, rfl, .inr (.inl (.inl ha)), rfl, ?_, ?_⟩
  · rw [List.all_map]
    exact List.all_eq_true.mpr fun _ _ => rfl
  · have e : inV (.str c) (zs.map V.str) = decide (c ∈ zs) := by
      unfold inV
      rw [List.any_map]
      rw [Bool.eq_iff_iff, List.any_eq_true, decide_eq_true_iff]
      constructor
      · rintro ⟨y, hy, h⟩
        have h : (y == c) = true := h
        rw [← eq_of_beq h]
        exact hy
      · intro h
        exact ⟨c, h, by show (c == c) = true; exact beq_self_eq_true c⟩
    rw [if_neg Bool.false_ne_true, e]
    exact q
theorem ent_at {ex : List Addr} {H : Hp} {es : List Ent} {xs : List V} {k : Nat} {e : Ent} (hx : RpAll ex H (es.map Ent.data) xs) (h : es[k]? = some e) : ∃ v, xs[k]? = some v ∧ Rp ex H e.data v := RpAll.at hx (by rw [List.getElem?_map, h]; rfl)
/-- an entry of the log, by position -/
theorem ix_ent {K : PySem.W.Frag} {ex : List Addr} {H : Hp} {a : Addr} {xs : List V} {es : List Ent} {k : Nat} {e : Ent} {Q : VK} (ha : H a = some (.tup xs)) (hx : RpAll ex H (es.map Ent.data) xs) (h : es[k]? = some e) (q : ∀ v, Rp ex H e.data v → Q v H) : rIxT K (.ref a) (.int (k : Nat)) H Q :=
  ixD (j := k) rfl ha hx (by rw [List.getElem?_map, h]; rfl) q
theorem twice {A : Prop} {S G : Hp → Prop} (main : (∀ H, S H → G H) → A) (key : ∀ H, S H → G H) : A := main key
def spEdges : Sp := fun vs H Q _ => ∃ (v : V) (es : List Ent) (one : Nat) (e : Ent) (ex : List Addr), vs = [v, .int (one : Nat)] ∧ Rp ex H (logD es) v ∧ es[one]? = some e ∧ e.isW = true ∧ e.ws.length ≤ 3 ∧ es.length ≤ 60 ∧ Live ex H ∧
  ∀ fo xs H', Kp [] H H' → H fo = none → H' fo = some (.lst xs) → RpAll ex H' ((edgesL es one).map edgeVD) xs → Q (.ref fo) H'
section
variable {P : Program} {w : World} {K : PySem.W.Frag} {mg : Str → Option Value} {base : Heap}
theorem ok_edges (DLawEdges : Fn K mg "_law_edges" sLawEdges ["entries", "one"]) (b_range : mg "range" = none) (b_len : mg "len" = none) (b_list : mg "list" = none) :
    FnOk P w K mg base CX0 1 DLawEdges.f DLawEdges.fd ["entries", "one"] spEdges := by
  refine DLawEdges.F.ok scLawEdges (fun vs H Q E h => ?_) (fun cdv A outer s H vs Q E hr h => ?_)
  · obtain ⟨v, es, one, e, ex, rfl, _⟩ := h
    rfl
  obtain ⟨v, es, one, e, ex, rfl, rv, he, hw, h3, h60, lv, q⟩ := h
  refine ⟨_, pss_cons (ps_set (i := 2) scLawEdges.nd rfl (.inl rfl) (pe_lst pa_nil))
      (pss_cons (ps_for PassesOwn.never rfl (piTupE K (pe_ix (ixtE K) (pe_ix (ixtE K) (pv 0) (pv 1) (fun _ _ => rfl)) pe_int (fun _ _ => rfl))) (pg_name (i := 3) scLawEdges.nd rfl (.inl rfl))
      (pss_cons (ps_set (i := 4) scLawEdges.nd rfl (.inl rfl) (pe_lst pa_nil))
      (pss_one (ps_for PassesOwn.never rfl (pi_range2 rfl b_range (pa_cons (pe_op op_add (pv 1) pe_int) (pa_cons (pe_op op_add (pe_callB (lenE K) (by rfl) b_len (by decide +kernel) (pa_cons (pv 0) pa_nil)) pe_int) pa_nil))) (pg_name (i := 5) scLawEdges.nd rfl (.inl rfl))
      (pss_cons (ps_if (PW.pt (pw_or (pt_cmpR op_eq (pv 5) (pe_callB (lenE K) (by rfl) b_len (by decide +kernel) (pa_cons (pv 0) pa_nil)) (nomark _)) (pw_or1 (pt_cmpR (inE K) (pv 3) (pe_ix (ixtE K) (pe_ix (ixtE K) (pv 0) (pv 5) (fun _ _ => rfl)) pe_int (fun _ _ => rfl)) (by rfl)))))
      (pss_one (ps_expr (bmE K PySem.F.plainAttrs_list PySem.F.slot_list_append PySem.F.type_list_append mt_append (pv 2) (pa_cons (pe_tup (pa_cons (pv 5) (pa_cons (pv 3) (pa_cons (pe_callTy (listE K) (by rfl) b_list (by decide +kernel) (pa_cons (pv 4) pa_nil)) pa_nil)))) pa_nil))))
      pss_nil)
      (pss_one (ps_if (PW.pt (pw_and (pt_cmpR op_lt (pv 5) (pe_callB (lenE K) (by rfl) b_len (by decide +kernel) (pa_cons (pv 0) pa_nil)) (nomark _)) (pw_and (pt_cmpR op_eq (pe_ix (ixtE K) (pe_ix (ixtE K) (pv 0) (pv 5) (fun _ _ => rfl)) pe_int (fun _ _ => rfl)) pe_str (nomark _)) (pw_and1 (pt_cmpR (inE K) (pv 3) (pe_ix (ixtE K) (pe_ix (ixtE K) (pv 0) (pv 5) (fun _ _ => rfl)) pe_int (fun _ _ => rfl)) (by rfl))))))
      (pss_one (ps_expr (bmE K PySem.F.plainAttrs_list PySem.F.slot_list_append PySem.F.type_list_append mt_append (pv 4) (pa_cons (pv 5) pa_nil))))
      pss_nil)))))))
      (pss_one (ps_ret (pv 2)))), ?_⟩
  refine ⟨Nat.zero_le _, fun fo nfo => ?_⟩
  have line : (100000 : Nat) < sizeLine := by decide
  have k0 : Kp [] H (upd H fo (.lst [])) := Kp.laid nfo
  have rv0 := Rp.keep (k0.mono (by simp)) _ _ (Rp.apart nfo _ _ rv)
  have lv0 : Live (fo :: ex) (upd H fo (.lst [])) := fun b hb => by
    rcases List.mem_cons.mp hb with z | z
    · rw [z, upd_same]; exact fun q => by cases q
    · exact lv.kp0 k0 b z
  have hf0 : (upd H fo (.lst [])) fo = some (.lst []) := upd_same
  obtain ⟨H0, e0⟩ : ∃ H0, upd H fo (.lst []) = H0 := ⟨_, rfl⟩
  rw [e0] at k0 rv0 lv0 hf0 ⊢
  obtain ⟨a, xs, rfl, na, ha, hx⟩ := rv0
  have naf : a ≠ fo := fun z => na (by rw [z]; simp)
  have hl : es.length = xs.length := by
    have := hx.length
    rwa [List.length_map] at this
  have hone := (List.getElem?_eq_some_iff.mp he).1
  have kf : ∀ {H' : Hp}, Kp [fo] H0 H' → Kp (fo :: ex) H0 H' := fun k => k.mono (by simp)
  have back : ∀ {H' : Hp}, Kp [fo] H0 H' → Kp [] H H' := fun k => by
    have a : Kp [fo] H _ := (k0.mono (by simp)).trans k
    exact Kp.drop a nfo
  have hal : ∀ {H' : Hp}, Kp [fo] H0 H' → H' a = some (.tup xs) := fun k => k _ _ (by simpa using naf) ha
  obtain ⟨ds, ed, hd3, _⟩ := ent_writes hw
  refine ⟨_, rfl, _, rfl, ix_ent ha hx he fun ve re => c_of (ent_ix re ed hd3 rfl fun u ru => ?_)⟩
  obtain ⟨wa, cs, rfl, nwa, hwa, hcs⟩ := ru
  obtain rfl := strs_of hcs
  have nwf : wa ≠ fo := fun z => nwa (by rw [z]; simp)
  refine ⟨wa, rfl, ⟨_, .inl (.inl hwa)⟩, for_tup (K := K) (a := wa) (xs := e.ws.map V.str) (fun i σ H' => ∃ (v3 v4 v5 : Option V) (fs : List V), σ = [some (.ref a), some (.int (one : Nat)), some (.ref fo), v3, v4, v5] ∧ Kp [fo] H0 H' ∧ H' fo = some (.lst fs) ∧ fs.length ≤ 100 * i ∧ RpAll (fo :: ex) H' (((e.ws.take i).flatMap fun c => edgesF c (one + 1) [] (es.drop (one + 1))).map edgeVD) fs)
    ⟨none, none, none, [], rfl, Kp.refl, hf0, Nat.zero_le _, rfl⟩ (fun i σ H' hj ⟨_, _, _, _, _, k, _⟩ => .inl (.inl (k _ _ (by simpa using nwf) hwa))) ?_ ?_⟩
  · rintro i x σ H1 hxi ⟨v3, v4, v5, fs, rfl, k1, hf1, hfl, hfr⟩
    obtain ⟨c, hc, rfl⟩ : ∃ c, e.ws[i]? = some c ∧ V.str c = x := by
      rw [List.getElem?_map] at hxi
      cases hcj : e.ws[i]? with
      | none => rw [hcj] at hxi; cases hxi
      | some c => rw [hcj] at hxi; exact ⟨c, rfl, Option.some.inj hxi⟩
    have hi : i < e.ws.length := (List.getElem?_eq_some_iff.mp hc).1
    refine ⟨Nat.zero_le _, fun bt nbt => ?_⟩
    have kb : Kp [] H1 (upd H1 bt (.lst [])) := Kp.laid nbt
    have nbf : bt ≠ fo := fun z => by rw [z, hf1] at nbt; cases nbt
    have hfr2 := RpAll.keep (kb.mono (by simp)) _ _ (RpAll.apart nbt _ _ hfr)
    have hb2 : (upd H1 bt (.lst [])) bt = some (.lst []) := upd_same
    have hf2 := kb _ _ (by simp) hf1
    have nab : a ≠ bt := fun z => by have := hal k1; rw [z, nbt] at this; cases this
    have ha2 := kb _ _ (by simp) (hal k1)
    have hx2 : RpAll (bt :: fo :: ex) (upd H1 bt (.lst [])) (es.map Ent.data) xs := RpAll.keep (kb.mono (by simp)) _ _ (RpAll.apart nbt _ _ (RpAll.keep (kf k1) _ _ hx))
    have lv2 : Live (bt :: fo :: ex) (upd H1 bt (.lst [])) := fun b hb => by
      rcases List.mem_cons.mp hb with z | z
      · rw [z, upd_same]; exact fun q => by cases q
      · intro y
        by_cases hbf : b = fo
        · rw [hbf, hf2] at y; cases y
        · cases h0 : H0 b with
          | none => exact lv0 b z h0
          | some u => rw [kb _ _ (by simp) (k1 b u (by simpa using hbf) h0)] at y; cases y
    have kdrop : ∀ {H' : Hp}, Kp [bt, fo] (upd H1 bt (.lst [])) H' → Kp [fo] H0 H' := fun k => by
      have : Kp [bt, fo] H1 _ := (kb.mono (by simp)).trans k
      exact k1.trans (Kp.drop this nbt)
    obtain ⟨H2, e2⟩ : ∃ H2, upd H1 bt (.lst []) = H2 := ⟨_, rfl⟩
    rw [e2] at kb hfr2 hb2 hf2 ha2 hx2 lv2 kdrop ⊢
    refine ⟨_, rfl, _, 1, rfl, rfl, _, rfl, a, xs, rfl, .inr (.inl (.inl ha2)), _, 1, rfl, rfl, _, _, rfl, by omega, ?_⟩
    have hn : (((xs.length : Nat) : Int) + 1 - (((one : Nat) : Int) + 1)).toNat = es.length - one := by omega
    rw [hn]
    refine for_range (fun j σ H' => ∃ (v5 : Option V) (fs : List V) (btw : List Nat) (done : List Edge), σ = [some (.ref a), some (.int (one : Nat)), some (.ref fo), some (.str c), some (.ref bt), v5] ∧ Kp [bt, fo] H2 H' ∧ H' bt = some (.lst (btw.map fun k => V.int (k : Nat))) ∧ H' fo = some (.lst fs) ∧ btw.length ≤ j ∧ fs.length ≤ 100 * i + j ∧
      RpAll (bt :: fo :: ex) H' (((e.ws.take i).flatMap fun c => edgesF c (one + 1) [] (es.drop (one + 1))).map edgeVD ++ done.map edgeVD) fs ∧ done ++ edgesR es c (one + 1 + j) btw = edgesF c (one + 1) [] (es.drop (one + 1)))
      ⟨v5, fs, [], [], rfl, Kp.refl, hb2, hf2, Nat.le_refl _, hfl, by simpa using hfr2, by show edgesR es c (one + 1) [] = _; unfold edgesR; rw [if_pos (by omega)]⟩ ?_ ?_
    · rintro j σ H3 hj ⟨v5, fs, btw, done, rfl, k3, hb3, hf3, hbl, hfl, hfr, hedge⟩
      have line : (100000 : Nat) < sizeLine := by decide
      have kf3 : Kp [fo] H0 H3 := kdrop k3
      have ha3 : H3 a = some (.tup xs) := hal kf3
      have hx3 : RpAll (bt :: fo :: ex) H3 (es.map Ent.data) xs := RpAll.keep (k3.mono (by simp)) _ _ hx2
      obtain ⟨k, hk⟩ : ∃ k, k = one + 1 + j := ⟨_, rfl⟩
      rw [← hk] at hedge
      rw [show ((one : Nat) : Int) + 1 + ((j : Nat) : Int) = ((k : Nat) : Int) by omega]
      have live3 : ∀ {Hc : Hp}, Kp [bt, fo] H2 Hc → Hc bt ≠ none → Hc fo ≠ none → Live (bt :: fo :: ex) Hc := fun k4 hb hf b hbm z => by
        by_cases h1 : b = bt
        · rw [h1] at z; exact hb z
        · by_cases h2 : b = fo
          · rw [h2] at z; exact hf z
          · cases h0 : H2 b with
            | none => exact lv2 b hbm h0
            | some u => rw [k4 b u (by simp [h1, h2]) h0] at z; cases z
      -- an edge is laid down
      have lay : ∀ (L T : Addr) (Hd : Hp), Kp [bt, fo] H2 Hd → Hd bt = some (.lst (btw.map fun k => V.int (k : Nat))) → Hd fo = some (.lst fs) → RpAll (bt :: fo :: ex) Hd (((e.ws.take i).flatMap fun c => edgesF c (one + 1) [] (es.drop (one + 1))).map edgeVD ++ done.map edgeVD) fs →
          Hd L = none → (upd Hd L (.lst (btw.map fun k => V.int (k : Nat)))) T = none →
          ∀ He, He = upd (upd (upd Hd L (.lst (btw.map fun k => V.int (k : Nat)))) T (.tup [.int (k : Nat), .str c, .ref L])) fo (.lst (fs ++ [.ref T])) →
          Kp [bt, fo] H2 He ∧ He bt = some (.lst (btw.map fun k => V.int (k : Nat))) ∧ He fo = some (.lst (fs ++ [.ref T])) ∧ RpAll (bt :: fo :: ex) He (((e.ws.take i).flatMap fun c => edgesF c (one + 1) [] (es.drop (one + 1))).map edgeVD ++ (done ++ [(k, c, btw)]).map edgeVD) (fs ++ [.ref T]) := by
        intro L T Hd kd hbd hfd rd nL nT He eHe
        have kL : Kp [] Hd (upd Hd L (.lst (btw.map fun k => V.int (k : Nat)))) := Kp.laid nL
        have kT : Kp [] _ (upd (upd Hd L (.lst (btw.map fun k => V.int (k : Nat)))) T (.tup [.int (k : Nat), .str c, .ref L])) := Kp.laid nT
        have lvd := live3 kd (by rw [hbd]; exact fun q => nomatch q) (by rw [hfd]; exact fun q => nomatch q)
        have rL : Rp (bt :: fo :: ex) (upd Hd L (.lst (btw.map fun k => V.int (k : Nat)))) (.list (btw.map intD)) (.ref L) := ⟨L, _, rfl, lvd.fresh nL, upd_same, ints_rp btw⟩
        have rT : Rp (bt :: fo :: ex) (upd (upd Hd L (.lst (btw.map fun k => V.int (k : Nat)))) T (.tup [.int (k : Nat), .str c, .ref L])) (edgeVD (k, c, btw)) (.ref T) := rp_new ((lvd.kp0 kL).fresh nT) nT ⟨_, _, rfl, rfl, _, _, rfl, rfl, RpAll.one rL⟩
        have kF : Kp (bt :: fo :: ex) (upd (upd Hd L (.lst (btw.map fun k => V.int (k : Nat)))) T (.tup [.int (k : Nat), .str c, .ref L])) He := by rw [eHe]; exact Kp.put (by simp)
        have kF2 : Kp [bt, fo] (upd (upd Hd L (.lst (btw.map fun k => V.int (k : Nat)))) T (.tup [.int (k : Nat), .str c, .ref L])) He := by rw [eHe]; exact Kp.put (by simp)
        have kLT := kL.trans kT
        refine ⟨(kd.trans (kLT.mono (by simp))).trans kF2, ?_, by rw [eHe]; exact upd_same, ?_⟩
        · rw [eHe, upd_ne nbf]
          exact kLT _ _ (by simp) hbd
        · have := (RpAll.keep ((kLT.mono (by simp)).trans kF) _ _ rd).app (RpAll.one (Rp.keep kF _ _ rT))
          rw [List.map_append, ← List.append_assoc]
          exact this
      rcases Nat.lt_or_ge k es.length with hlt | hge
      · obtain ⟨e', he'⟩ : ∃ e', es[k]? = some e' := ⟨_, List.getElem?_eq_getElem hlt⟩
        rw [edgesR_step he'] at hedge
        refine ⟨_, rfl, _, rfl, a, xs, rfl, .inr (.inl (.inl ha3)), rfl, _, rfl, ?_⟩
        rw [decide_eq_false (show ¬ V.int (k : Nat) = V.int (xs.length : Nat) from fun z => by have := V.int.inj z; omega)]
        obtain ⟨d2, ed2, _, hd2⟩ := ent_reads e'
        refine iteF ⟨_, rfl, _, rfl, _, rfl, ix_ent ha3 hx3 he' fun ve re => c_of (ent_ix re ed2 hd2 rfl fun u ru => ?_)⟩
        obtain ⟨ra, cs, rfl, nra, hra, hcs⟩ := ru
        obtain rfl := strs_of hcs
        refine in_strs hra ⟨_, rfl, ?_⟩
        refine' twice (S := fun Hc => ∃ (fs' : List V), Kp [bt, fo] H2 Hc ∧ Hc bt = some (.lst (btw.map fun k => V.int (k : Nat))) ∧ Hc fo = some (.lst fs') ∧ fs'.length ≤ 100 * i + j + 1 ∧
          RpAll (bt :: fo :: ex) Hc (((e.ws.take i).flatMap fun c => edgesF c (one + 1) [] (es.drop (one + 1))).map edgeVD ++ (done ++ (if c ∈ e'.rs then [(k, c, btw)] else [])).map edgeVD) fs') (fun key => ?main) ?key
        case main =>
          by_cases hcr : c ∈ e'.rs
          · rw [decide_eq_true hcr]
            refine iteT ⟨_, rfl, .inl ⟨rfl, _, SqL.of hf3⟩, _, rfl, _, rfl, _, rfl, bt, _, rfl, .inl (.inl (.inl hb3)), fun L nL => ⟨by show 3 ≤ sizeLine; omega, fun T nT => ?_⟩⟩
            have hfT : (upd (upd H3 L (.lst (btw.map fun k => V.int (k : Nat)))) T (.tup [.int (k : Nat), .str c, .ref L])) fo = some (.lst fs) := (Kp.trans (Kp.laid (ex := []) nL) (Kp.laid nT)) _ _ (by simp) hf3
            refine ⟨fo, fs, .ref T, rfl, rfl, hfT, by omega, ?_⟩
            obtain ⟨He, eHe⟩ : ∃ He, He = upd (upd (upd H3 L (.lst (btw.map fun k => V.int (k : Nat)))) T (.tup [.int (k : Nat), .str c, .ref L])) fo (.lst (fs ++ [.ref T])) := ⟨_, rfl⟩
            obtain ⟨k4, hb4, hf4, hr4⟩ := lay L T H3 k3 hb3 hf3 hfr nL nT He eHe
            rw [← eHe]
            exact key He ⟨_, k4, hb4, hf4, by rw [List.length_append]; simp; omega, by rw [if_pos hcr]; exact hr4⟩
          · rw [decide_eq_false hcr]
            exact iteF (key H3 ⟨fs, k3, hb3, hf3, by omega, by rw [if_neg hcr, List.append_nil]; exact hfr⟩)
        case key =>
          rintro H4 ⟨fs', k4, hb4, hf4, hfl4, hr4⟩
          have ha4 := hal (kdrop k4)
          have hx4 : RpAll (bt :: fo :: ex) H4 (es.map Ent.data) xs := RpAll.keep (k4.mono (by simp)) _ _ hx2
          have fin : ∀ (Hf : Hp) (btw' : List Nat), btw' = (if c ∈ e'.ws then btw ++ [k] else btw) → Kp [bt, fo] H4 Hf → Hf bt = some (.lst (btw'.map fun k => V.int (k : Nat))) → Hf fo = some (.lst fs') →
              ∃ (v5 : Option V) (fs : List V) (btw : List Nat) (done : List Edge), [some (V.ref a), some (.int (one : Nat)), some (.ref fo), some (.str c), some (.ref bt), some (.int (k : Nat))] = [some (V.ref a), some (.int (one : Nat)), some (.ref fo), some (.str c), some (.ref bt), v5] ∧ Kp [bt, fo] H2 Hf ∧ Hf bt = some (.lst (btw.map fun k => V.int (k : Nat))) ∧ Hf fo = some (.lst fs) ∧ btw.length ≤ j + 1 ∧ fs.length ≤ 100 * i + (j + 1) ∧
                RpAll (bt :: fo :: ex) Hf (((e.ws.take i).flatMap fun c => edgesF c (one + 1) [] (es.drop (one + 1))).map edgeVD ++ done.map edgeVD) fs ∧ done ++ edgesR es c (one + 1 + (j + 1)) btw = edgesF c (one + 1) [] (es.drop (one + 1)) := by
            intro Hf btw' eb kf hbf hff
            refine ⟨_, fs', btw', _, rfl, k4.trans kf, hbf, hff, ?_, by omega, RpAll.keep (kf.mono (by simp)) _ _ hr4, ?_⟩
            · rw [eb]
              split
              · rw [List.length_append]; simp; omega
              · omega
            · rw [eb, show one + 1 + (j + 1) = k + 1 by omega, List.append_assoc]
              exact hedge
          refine ⟨_, rfl, _, rfl, a, xs, rfl, .inr (.inl (.inl ha4)), _, _, rfl, rfl, _, rfl, ?_⟩
          rw [decide_eq_true (show ((k : Nat) : Int) < (xs.length : Nat) by omega)]
          obtain ⟨d0, ed0, hd0⟩ := ent_kind e'
          refine iteT ⟨_, rfl, _, rfl, ix_ent ha4 hx4 he' fun ve re => c_of (ent_ix re ed0 hd0 rfl fun vk rk => ?_)⟩
          obtain rfl : vk = .str (if e'.isW then "write" else "query") := rk
          refine ⟨rfl, _, rfl, ?_⟩
          cases hw' : e'.isW with
          | false =>
            rw [show decide (V.str (if false = true then ("write" : Str) else "query") = V.str "write") = false from decide_eq_false (by intro h; exact absurd (V.str.inj h) (by decide))]
            refine iteF (fin H4 btw ?_ Kp.refl hb4 hf4)
            rw [if_neg]
            cases e' with
            | wr _ _ _ _ => cases hw'
            | qu _ _ => intro z; cases z
          | true =>
            rw [show decide (V.str (if true = true then ("write" : Str) else "query") = V.str "write") = true from decide_eq_true rfl]
            obtain ⟨d3, ed3, hd3, _⟩ := ent_writes hw'
            refine iteT ⟨_, rfl, _, rfl, _, rfl, ix_ent ha4 hx4 he' fun ve re => c_of (ent_ix re ed3 hd3 rfl fun u ru => ?_)⟩
            obtain ⟨wa', cs', rfl, nwa', hwa', hcs'⟩ := ru
            obtain rfl := strs_of hcs'
            refine in_strs hwa' ⟨_, rfl, ?_⟩
            by_cases hcw : c ∈ e'.ws
            · rw [decide_eq_true hcw]
              refine iteT ⟨_, rfl, .inl ⟨rfl, _, SqL.of hb4⟩, _, rfl, bt, _, .int (k : Nat), rfl, rfl, hb4, by rw [List.length_map]; omega, ?_⟩
              refine fin _ (btw ++ [k]) (if_pos hcw).symm (Kp.put (by simp)) ?_ ?_
              · rw [upd_same, List.map_append]; rfl
              · rw [upd_ne (fun z => nbf z.symm)]; exact hf4
            · rw [decide_eq_false hcw]
              exact iteF (fin H4 btw (if_neg hcw).symm Kp.refl hb4 hf4)
      · have ek : k = es.length := by omega
        rw [edgesR_end ek] at hedge
        refine ⟨_, rfl, _, rfl, a, xs, rfl, .inr (.inl (.inl ha3)), rfl, _, rfl, ?_⟩
        rw [decide_eq_true (show V.int (k : Nat) = V.int (xs.length : Nat) by rw [ek, hl])]
        refine iteT ⟨_, rfl, .inl ⟨rfl, _, SqL.of hf3⟩, _, rfl, _, rfl, _, rfl, bt, _, rfl, .inl (.inl (.inl hb3)), fun L nL => ⟨by show 3 ≤ sizeLine; omega, fun T nT => ?_⟩⟩
        have hfT : (upd (upd H3 L (.lst (btw.map fun k => V.int (k : Nat)))) T (.tup [.int (k : Nat), .str c, .ref L])) fo = some (.lst fs) := (Kp.trans (Kp.laid (ex := []) nL) (Kp.laid nT)) _ _ (by simp) hf3
        refine ⟨fo, fs, .ref T, rfl, rfl, hfT, by omega, ?_⟩
        obtain ⟨He, eHe⟩ : ∃ He, He = upd (upd (upd H3 L (.lst (btw.map fun k => V.int (k : Nat)))) T (.tup [.int (k : Nat), .str c, .ref L])) fo (.lst (fs ++ [.ref T])) := ⟨_, rfl⟩
        obtain ⟨k4, hb4, hf4, hr4⟩ := lay L T H3 k3 hb3 hf3 hfr nL nT He eHe
        rw [← eHe]
        have ha4 := hal (kdrop k4)
        refine ⟨_, rfl, _, rfl, a, xs, rfl, .inr (.inl (.inl ha4)), _, _, rfl, rfl, _, rfl, ?_⟩
        rw [decide_eq_false (show ¬ ((k : Nat) : Int) < (xs.length : Nat) by omega)]
        refine iteF ⟨_, _, btw, done ++ [(k, c, btw)], rfl, k4, hb4, hf4, by omega, by rw [List.length_append]; simp; omega, hr4, ?_⟩
        rw [show one + 1 + (j + 1) = k + 1 by omega, edgesR_past (by omega), List.append_nil]
        exact hedge
    · rintro σ H3 ⟨v5, fs, btw, done, rfl, k3, hb3, hf3, hbl, hfl, hfr, hedge⟩
      rw [edgesR_past (by omega), List.append_nil] at hedge
      rw [hedge] at hfr
      refine ⟨_, _, _, fs, rfl, kdrop k3, hf3, by omega, ?_⟩
      rw [List.take_add_one, hc, List.flatMap_append, List.map_append]
      have := RpAll.less (ex' := fo :: ex) (fun b hb => List.mem_cons_of_mem _ hb) _ _ hfr
      simpa using this
  · rintro σ H1 ⟨v3, v4, v5, fs, rfl, k1, hf1, hfl, hfr⟩
    rw [List.length_map, List.take_length] at hfr
    refine ⟨_, rfl, q fo fs H1 (back k1) nfo hf1 ?_⟩
    have : edgesL es one = e.ws.flatMap fun c => edgesF c (one + 1) [] (es.drop (one + 1)) := by
      unfold edgesL
      rw [he]
    rw [this]
    exact RpAll.less (by intro b hb; simp [hb]) _ _ hfr
end
end NV
/-! W8a -/
set_option Elab.async false
set_option linter.all false
set_option maxRecDepth 100000
set_option maxHeartbeats 1000000
/-! costs as values -/
namespace NV
open PySem PySem.Spec PyProof.Rows L2
def costV : Cost → V
  | none => .non
  | some i => .int i
def costKV (l : List (Str × Cost)) : List (Key × V) := l.map fun x => ((Sum.inr x.1 : Key), costV x.2)
end NV
/-! Y4a -/
set_option Elab.async false
set_option linter.all false
set_option maxRecDepth 100000
set_option maxHeartbeats 1000000
/-! edges, costs; a list of costs that is filled from its end -/
namespace NV
open PySem PySem.Spec PyProof.Rows L2
theorem isW_of {e : Ent} {c : Str} (h : c ∈ e.ws) : e.isW = true := by
  cases e with
  | wr _ _ _ _ => rfl
  | qu _ _ => cases h
theorem edgesF_ok {es : List Ent} {c : Str} : ∀ (rest : List Ent) (k : Nat) (btw : List Nat), k ≤ es.length → es.drop k = rest → (∀ b ∈ btw, ∃ e, es[b]? = some e ∧ e.isW = true) → ∀ x ∈ edgesF c k btw rest, k ≤ x.1 ∧ x.1 ≤ es.length ∧ x.2.2.length ≤ btw.length + rest.length ∧ ∀ b ∈ x.2.2, ∃ e, es[b]? = some e ∧ e.isW = true
  | [], k, btw, hk, h, hb, x, hx => by
    have : es.length ≤ k := List.drop_eq_nil_iff.mp h
    have hx : x ∈ [(k, c, btw)] := hx
    rw [List.mem_singleton.mp hx]
    exact ⟨Nat.le_refl _, hk, by simp, hb⟩
  | e :: rest, k, btw, hk, h, hb, x, hx => by
    have hlt : k < es.length := by
      rcases Nat.lt_or_ge k es.length with h1 | h1
      · exact h1
      · rw [List.drop_eq_nil_of_le h1] at h; cases h
    rw [List.drop_eq_getElem_cons hlt] at h
    obtain ⟨he, hr⟩ := List.cons.inj h
    have hk1 : es[k]? = some e := by rw [List.getElem?_eq_getElem hlt, he]
    have hx : x ∈ (if c ∈ e.rs then [(k, c, btw)] else []) ++ edgesF c (k + 1) (if c ∈ e.ws then btw ++ [k] else btw) rest := hx
    rcases List.mem_append.mp hx with z | z
    · by_cases hc : c ∈ e.rs
      · rw [if_pos hc] at z
        rw [List.mem_singleton.mp z]
        exact ⟨Nat.le_refl _, hk, by simp, hb⟩
      · rw [if_neg hc] at z; cases z
    · have ih := edgesF_ok rest (k + 1) (if c ∈ e.ws then btw ++ [k] else btw) hlt hr (fun b hbm => by
        by_cases hc : c ∈ e.ws
        · rw [if_pos hc] at hbm
          rcases List.mem_append.mp hbm with y | y
          · exact hb b y
          · rw [List.mem_singleton.mp y]; exact ⟨e, hk1, isW_of hc⟩
        · rw [if_neg hc] at hbm; exact hb b hbm) x z
      refine ⟨by omega, ih.2.1, ?_, ih.2.2.2⟩
      have h3 := ih.2.2.1
      have : (if c ∈ e.ws then btw ++ [k] else btw).length ≤ btw.length + 1 := by
        split
        · simp
        · omega
      rw [List.length_cons]
      omega
theorem edgesL_ok {es : List Ent} {one : Nat} {x : Edge} (h1 : one < es.length) (h : x ∈ edgesL es one) : one < x.1 ∧ x.1 ≤ es.length ∧ x.2.2.length ≤ es.length ∧ ∀ b ∈ x.2.2, ∃ e, es[b]? = some e ∧ e.isW = true := by
  unfold edgesL at h
  rw [List.getElem?_eq_getElem h1] at h
  obtain ⟨c, _, hx⟩ := List.mem_flatMap.mp h
  have := edgesF_ok (es.drop (one + 1)) (one + 1) [] h1 rfl (fun b hb => by cases hb) x hx
  refine ⟨by omega, this.2.1, ?_, this.2.2.2⟩
  have h3 := this.2.2.1
  rw [List.length_drop, List.length_nil] at h3
  omega
/-- the cost of the entry at k, where it is a write -/
def labC (es : List Ent) (k : Nat) : Cost := match es[k]? with
  | some e => if e.isW then costW (wayFrom (onB (es.drop (k + 1))) e.ws) else none
  | none => none
theorem labC_at {es : List Ent} {k : Nat} {e : Ent} (h : es[k]? = some e) : labC es k = if e.isW then costW (wayFrom (onB (es.drop (k + 1))) e.ws) else none := by
  unfold labC
  rw [h]
theorem labAt_at {es : List Ent} {k : Nat} {e : Ent} (h : es[k]? = some e) : labAt es k = if e.isW then costW (wayFrom (onB (es.drop (k + 1))) e.ws) else some 0 := by
  unfold labAt
  rw [h]
theorem labAt_end {es : List Ent} : labAt es es.length = some 0 := by
  unfold labAt
  rw [List.getElem?_eq_none (Nat.le_refl _)]
theorem rp_pr {ex : List Addr} {H : Hp} {pr : Option Int} {v : V} (h : Rp ex H (prD pr) v) : v = costV pr := by
  cases pr with
  | none => exact h
  | some i => exact h
theorem rp_ints {ex : List Addr} {H : Hp} : ∀ {l : List Nat} {xs : List V}, RpAll ex H (l.map intD) xs → xs = l.map fun k => V.int (k : Nat)
  | [], xs, h => h
  | k :: l, xs, h => by
    obtain ⟨v, ws, rfl, h1, h2⟩ := h
    obtain rfl : v = V.int (k : Nat) := h1
    rw [rp_ints h2]
    rfl
theorem notin_none {K : PySem.W.Frag} {H : Hp} {a : Addr} {ps : List Cost} {Q : VK} (ha : H a = some (.lst (ps.map costV))) (q : Q (.bl (!decide (none ∈ ps))) H) : rIn K true .non (.ref a) H Q := by
  refine ⟨a, _, rfl, .inl (.inl (.inl ha)), rfl, ?_, ?_⟩
  · rw [List.all_map]
    refine List.all_eq_true.mpr fun x _ => ?_
    cases x <;> rfl
  · have e : inV .non (ps.map costV) = decide (none ∈ ps) := by
      unfold inV
      rw [List.any_map, Bool.eq_iff_iff, List.any_eq_true, decide_eq_true_iff]
      constructor
      · rintro ⟨y, hy, h⟩
        cases y with
        | none => exact hy
        | some i => cases h
      · intro h
        exact ⟨none, h, rfl⟩
    rw [if_pos rfl, e]
    exact q
theorem costs_some : ∀ {ps : List Cost}, none ∉ ps → ∃ ns : List Int, ps = ns.map some
  | [], _ => ⟨[], rfl⟩
  | none :: ps, h => absurd List.mem_cons_self h
  | some i :: ps, h => by
    obtain ⟨ns, e⟩ := costs_some (ps := ps) fun z => h (List.mem_cons_of_mem _ z)
    exact ⟨i :: ns, by rw [e]; rfl⟩
/-- the list of costs while the loop goes down: what stands at k -/
def bestAt (es : List Ent) (from_ : Nat) (k : Nat) : Cost := if from_ ≤ k then labC es k else none
structure BestAt (bd : Addr) (n : Nat) (f : Nat → Cost) (H : Hp) : Prop where
  at_ : ∃ bs : List Cost, bs.length = n + 1 ∧ H bd = some (.lst (bs.map costV)) ∧ ∀ k, k ≤ n → bs[k]? = some (f k)
theorem BestAt.same {bd : Addr} {n : Nat} {f g : Nat → Cost} {H : Hp} (h : BestAt bd n f H) (e : ∀ k, k ≤ n → f k = g k) : BestAt bd n g H := by
  obtain ⟨bs, l, a, q⟩ := h
  exact ⟨bs, l, a, fun k hk => by rw [q k hk, e k hk]⟩
theorem BestAt.keep {bd : Addr} {n : Nat} {f : Nat → Cost} {H H' : Hp} (h : BestAt bd n f H) (k : Kp [] H H') : BestAt bd n f H' := by
  obtain ⟨bs, l, a, q⟩ := h
  exact ⟨bs, l, k _ _ (by simp) a, q⟩
theorem BestAt.get {K : PySem.W.Frag} {bd : Addr} {n : Nat} {f : Nat → Cost} {H : Hp} (h : BestAt bd n f H) {k : Nat} (hk : k ≤ n) {Q : VK} (q : ∀ u, u = costV (f k) → Q u H) : rIxL K (.ref bd) (.int (k : Nat)) H Q := by
  obtain ⟨bs, l, a, g⟩ := h
  exact ⟨bd, _, _, costV (f k), rfl, rfl, .inl (.inl a), atI_nat (by rw [List.getElem?_map, g k hk]; rfl), q _ rfl⟩
theorem BestAt.put {bd : Addr} {n : Nat} {f : Nat → Cost} {H : Hp} (h : BestAt bd n f H) {k : Nat} (hk : k ≤ n) (x : Cost) : ∃ xs, H bd = some (.lst xs) ∧ ixN xs.length (k : Nat) = some k ∧ BestAt bd n (fun j => if j = k then x else f j) (upd H bd (.lst (xs.set k (costV x)))) := by
  obtain ⟨bs, l, a, g⟩ := h
  refine ⟨_, a, ?_, bs.set k x, by rw [List.length_set]; exact l, by rw [upd_same, List.map_set], fun j hj => ?_⟩
  · unfold ixN
    rw [List.length_map, l, if_pos (Int.natCast_nonneg k), if_pos (by omega)]
    rfl
  · rw [List.getElem?_set]
    by_cases e : k = j
    · subst e
      rw [if_pos rfl, if_pos (by omega), if_pos rfl]
    · rw [if_neg e, if_neg (fun z => e z.symm)]
      exact g j hj
theorem twiceV {A : Prop} {S G : V → Hp → Prop} (main : (∀ u H, S u H → G u H) → A) (key : ∀ u H, S u H → G u H) : A := main key
end NV
/-! EdgP -/
set_option Elab.async false
set_option linter.all false
set_option maxRecDepth 100000
set_option maxHeartbeats 1000000
/-! words over an edge: the reader's name, whether a path ends there -/
namespace NV
open PySem PySem.Spec PyProof.Rows L2
section
variable {K : PySem.W.Frag} {ex : List Addr} {H : Hp} {a : Addr} {xs : List V} {es : List Ent} {k i : Nat} {σ : L2.St}
theorem len_data (hx : RpAll ex H (es.map Ent.data) xs) : es.length = xs.length := by
  have := hx.length
  rwa [List.length_map] at this
theorem name_ok {Q : VK} (si : σ[i]? = some (some (.int (k : Nat)))) (s0 : σ[0]? = some (some (.ref a))) (ha : H a = some (.tup xs)) (hx : RpAll ex H (es.map Ent.data) xs) (hk : k ≤ es.length) (q : Q (.str (nmAt es k)) H) :
    tIf (tTest (tOp rEq (tVar i) (tCB (fun xs H Q => ∃ p ys, xs = [V.ref p] ∧ (SqL K H p ys ∨ SqT K H p ys) ∧ Q (V.int ys.length) H) (tCons (tVar 0) tNil)))) (tC (.str "")) (tOp (rIxT K) (tOp (rIxT K) (tVar 0) (tVar i)) (tC (.int 1))) σ H Q := by
  have hl := len_data hx
  refine ⟨_, si, _, s0, a, xs, rfl, .inr (.inl (.inl ha)), rfl, _, rfl, ?_⟩
  rcases Nat.lt_or_ge k es.length with hlt | hge
  · obtain ⟨ek, hek⟩ : ∃ ek, es[k]? = some ek := ⟨_, List.getElem?_eq_getElem hlt⟩
    obtain ⟨dk, edk, hdk, _⟩ := ent_reads ek
    rw [decide_eq_false (show ¬ V.int (k : Nat) = V.int (xs.length : Nat) from fun z => by have := V.int.inj z; omega)]
    refine iteF ⟨_, s0, _, si, ix_ent ha hx hek fun ve re => c_of (ent_ix re edk hdk rfl fun vk rk => ?_)⟩
    obtain rfl : vk = .str ek.id := rk
    unfold nmAt at q
    rw [hek] at q
    exact q
  · rw [decide_eq_true (show V.int (k : Nat) = V.int (xs.length : Nat) by rw [← hl]; congr 2; omega)]
    unfold nmAt at q
    rw [List.getElem?_eq_none hge] at q
    exact iteT q
theorem ends_ok {Q : Bool → Hp → Prop} (si : σ[i]? = some (some (.int (k : Nat)))) (s0 : σ[0]? = some (some (.ref a))) (ha : H a = some (.tup xs)) (hx : RpAll ex H (es.map Ent.data) xs) (hk : k ≤ es.length) (q : Q (endsAt es k) H) :
    tOr (tTest (tOp rEq (tVar i) (tCB (fun xs H Q => ∃ p ys, xs = [V.ref p] ∧ (SqL K H p ys ∨ SqT K H p ys) ∧ Q (V.int ys.length) H) (tCons (tVar 0) tNil)))) (tTest (tOp rEq (tOp (rIxT K) (tOp (rIxT K) (tVar 0) (tVar i)) (tC (.int 0))) (tC (.str "query")))) σ H Q := by
  have hl := len_data hx
  refine ⟨_, si, _, s0, a, xs, rfl, .inr (.inl (.inl ha)), rfl, _, rfl, ?_⟩
  rcases Nat.lt_or_ge k es.length with hlt | hge
  · obtain ⟨ek, hek⟩ : ∃ ek, es[k]? = some ek := ⟨_, List.getElem?_eq_getElem hlt⟩
    obtain ⟨dk, edk, hdk⟩ := ent_kind ek
    rw [decide_eq_false (show ¬ V.int (k : Nat) = V.int (xs.length : Nat) from fun z => by have := V.int.inj z; omega)]
    refine iteF ⟨_, s0, _, si, ix_ent ha hx hek fun ve re => c_of (ent_ix re edk hdk rfl fun vk rk => ?_)⟩
    obtain rfl : vk = .str (if ek.isW then "write" else "query") := rk
    refine ⟨rfl, _, rfl, ?_⟩
    unfold endsAt at q
    rw [hek] at q
    have e : decide (V.str (if ek.isW = true then ("write" : Str) else "query") = V.str "query") = !ek.isW := by
      cases ek.isW with
      | true => exact decide_eq_false (by intro h; exact absurd (V.str.inj h) (by decide))
      | false => exact decide_eq_true rfl
    rw [e]
    exact q
  · rw [decide_eq_true (show V.int (k : Nat) = V.int (xs.length : Nat) by rw [← hl]; congr 2; omega)]
    unfold endsAt at q
    rw [List.getElem?_eq_none hge] at q
    exact iteT q
end
end NV
/-! AllP -/
set_option Elab.async false
set_option linter.all false
set_option maxRecDepth 100000
set_option maxHeartbeats 1000000
/-! the law's _law_all_paths -/
namespace NV
open PySem PySem.Spec PyProof.Rows L2
open C8 (pss_cut pe_gc)
abbrev sLawAllPaths : Stmt := topS 56
theorem scLawAllPaths : FnScope ["entries", "one", "found", "at", "spot", "between", "prices", "step", "k", "price", "more", "further"] ["entries", "one"] (defScope sLawAllPaths) := ⟨rfl, rfl, rfl, by decide +kernel, rfl, by decide +kernel, by decide +kernel⟩
def apD (x : AP) : PyData := .tuple [.int x.1, pathD x.2.1, .list (x.2.2.map intD)]
theorem wposs_len (es : List Ent) (c : Str) (k j : Nat) : (wposs es c k j).length ≤ j - k := by
  unfold wposs
  exact Nat.le_trans (List.length_filter_le _ _) (by rw [List.length_range']; exact Nat.le_refl _)
theorem PathPs.len {es : List Ent} {i : Nat} {c : Str} {k : Int} {p : Path} {bs : List Nat} (h : PathPs es i c k p bs) : p.length + i ≤ es.length + 1 ∧ bs.length ≤ es.length - i := by
  induction h with
  | @fin i c hi h => exact ⟨by simp; omega, wposs_len _ _ _ _⟩
  | @query i j e c hij he hw hc h =>
    have h1 := (List.getElem?_eq_some_iff.mp he).1
    have h2 := wposs_len es c i j
    exact ⟨by simp; omega, by omega⟩
  | @read i j e c c' k p bs hij he hw hc h hc' r ih =>
    have h1 := (List.getElem?_eq_some_iff.mp he).1
    have h2 := wposs_len es c i j
    refine ⟨by rw [List.length_cons]; omega, ?_⟩
    rw [List.length_append]
    omega
theorem pow4 {a b : Nat} (h : a ≤ b) : 4 ^ a ≤ 4 ^ b := Nat.pow_le_pow_right (by decide) h
/-- how many paths by one cell -/
theorem count_cell {es : List Ent} {c : Str} {f : Edge → Nat} (hf : ∀ x : Edge, x.1 ≤ es.length → f x ≤ if x.1 < es.length then 3 * 4 ^ (es.length - (x.1 + 1)) else 1) : ∀ (rest : List Ent) (k : Nat) (btw : List Nat), k ≤ es.length → es.drop k = rest → ((edgesF c k btw rest).map f).sum ≤ 4 ^ (es.length - k)
  | [], k, btw, hk, h => by
    have e : k = es.length := by
      have : es.length ≤ k := List.drop_eq_nil_iff.mp h
      omega
    show ([(k, c, btw)].map f).sum ≤ _
    have := hf (k, c, btw) hk
    rw [if_neg (by show ¬ k < es.length; omega)] at this
    rw [show es.length - k = 0 by omega]
    simp only [List.map_cons, List.map_nil, List.sum_cons, List.sum_nil, Nat.pow_zero]
    omega
  | e :: rest, k, btw, hk, h => by
    have hlt : k < es.length := by
      rcases Nat.lt_or_ge k es.length with h1 | h1
      · exact h1
      · rw [List.drop_eq_nil_of_le h1] at h; cases h
    rw [List.drop_eq_getElem_cons hlt] at h
    obtain ⟨he, hr⟩ := List.cons.inj h
    have ih := count_cell hf (c := c) rest (k + 1) (if c ∈ e.ws then btw ++ [k] else btw) hlt hr
    show (((if c ∈ e.rs then [(k, c, btw)] else []) ++ edgesF c (k + 1) (if c ∈ e.ws then btw ++ [k] else btw) rest).map f).sum ≤ _
    rw [List.map_append, List.sum_append]
    have h1 : ((if c ∈ e.rs then [(k, c, btw)] else []).map f).sum ≤ 3 * 4 ^ (es.length - (k + 1)) := by
      by_cases hc : c ∈ e.rs
      · rw [if_pos hc]
        have := hf (k, c, btw) hk
        rw [if_pos (show k < es.length from hlt)] at this
        simpa using this
      · rw [if_neg hc]
        exact Nat.zero_le _
    have h2 : 4 ^ (es.length - k) = 4 * 4 ^ (es.length - (k + 1)) := by
      rw [show es.length - k = (es.length - (k + 1)) + 1 by omega, Nat.pow_succ, Nat.mul_comm]
    rw [h2]
    omega
theorem flat_len {α β : Type} (f : α → List β) : ∀ l : List α, (l.flatMap f).length = (l.map fun x => (f x).length).sum
  | [] => rfl
  | a :: l => by rw [List.flatMap_cons, List.length_append, flat_len f l, List.map_cons, List.sum_cons]
theorem sum_flat {α β : Type} (g : α → List β) (f : β → Nat) : ∀ l : List α, ((l.flatMap g).map f).sum = (l.map fun x => ((g x).map f).sum).sum
  | [] => rfl
  | a :: l => by rw [List.flatMap_cons, List.map_append, List.sum_append, sum_flat g f l, List.map_cons, List.sum_cons]
theorem sum_most {α : Type} {f : α → Nat} {b : Nat} (h : ∀ x, f x ≤ b) : ∀ l : List α, (l.map f).sum ≤ l.length * b
  | [] => Nat.zero_le _
  | a :: l => by
    have := sum_most h l
    have := h a
    rw [List.map_cons, List.sum_cons, List.length_cons, Nat.succ_mul]
    omega
theorem paths_count {es : List Ent} (ok : ∀ e ∈ es, e.Ok) : ∀ (n one : Nat), one < es.length → (pathsF es n one).length ≤ 3 * 4 ^ (es.length - (one + 1))
  | 0, one, h => Nat.zero_le _
  | n + 1, one, h => by
    obtain ⟨e, he⟩ : ∃ e, es[one]? = some e := ⟨_, List.getElem?_eq_getElem h⟩
    have h3 := (ok e (List.mem_of_getElem? he)).ws.2
    show ((edgesL es one).flatMap (pathsE es (pathsF es n))).length ≤ _
    rw [flat_len]
    have hb : ∀ x : Edge, x.1 ≤ es.length → (pathsE es (pathsF es n) x).length ≤ if x.1 < es.length then 3 * 4 ^ (es.length - (x.1 + 1)) else 1 := by
      intro x hx
      have one_le : 1 ≤ 4 ^ (es.length - (x.1 + 1)) := Nat.pow_pos (by decide)
      unfold pathsE
      split
      · exact Nat.zero_le _
      · split
        · split
          · simp only [List.length_singleton]; omega
          · exact Nat.le_refl _
        · rename_i he
          rw [List.length_map]
          have hlt : x.1 < es.length := by
            rcases Nat.lt_or_ge x.1 es.length with h | h
            · exact h
            · unfold endsAt at he
              rw [List.getElem?_eq_none h] at he
              exact absurd rfl he
          rw [if_pos hlt]
          exact paths_count ok n x.1 hlt
    have : edgesL es one = e.ws.flatMap fun c => edgesF c (one + 1) [] (es.drop (one + 1)) := by
      unfold edgesL
      rw [he]
    rw [this, sum_flat]
    refine Nat.le_trans (sum_most (b := 4 ^ (es.length - (one + 1))) (fun c => count_cell hb _ _ _ h rfl) e.ws) ?_
    exact Nat.mul_le_mul_right _ h3
def spPathsF (n : Nat) : Sp := fun vs H Q _ => ∃ (v : V) (es : List Ent) (one : Nat) (e : Ent) (ex : List Addr), vs = [v, .int (one : Nat)] ∧ Rp ex H (logD es) v ∧ es[one]? = some e ∧ e.isW = true ∧ (∀ e ∈ es, e.Ok) ∧ es.length ≤ 6 ∧ es.length - one ≤ n ∧ Live ex H ∧
  ∀ fo xs H', Kp [] H H' → H fo = none → H' fo = some (.lst xs) → RpAll ex H' ((pathsF es n one).map apD) xs → Q (.ref fo) H'
section
variable {P : Program} {w : World} {K : PySem.W.Frag} {mg : Str → Option Value} {base : Heap}
theorem ok_pathsF (DLawAllPaths : Fn K mg "_law_all_paths" sLawAllPaths ["entries", "one"]) (DLawEdges : Fn K mg "_law_edges" sLawEdges ["entries", "one"]) (b_len : mg "len" = none) (b_sum : mg "sum" = none)
    (GLawEdges : FnOk P w K mg base CX0 1 DLawEdges.f DLawEdges.fd ["entries", "one"] spEdges) :
    ∀ n, FnOk P w K mg base CX0 (n + 1) DLawAllPaths.f DLawAllPaths.fd ["entries", "one"] (spPathsF n)
  | 0 => by
    refine DLawAllPaths.F.ok scLawAllPaths (fun vs H Q E h => ?_) (fun cdv A outer s H vs Q E hr h => ?_)
    · obtain ⟨v, es, one, e, ex, rfl, _⟩ := h
      rfl
    · obtain ⟨v, es, one, e, ex, rfl, rv, he, hw, ok, h6, hn, lv, q⟩ := h
      have := (List.getElem?_eq_some_iff.mp he).1
      omega
  | n + 1 => by
    have GLawAllPaths := ok_pathsF DLawAllPaths DLawEdges b_len b_sum GLawEdges n
    refine DLawAllPaths.F.ok scLawAllPaths (fun vs H Q E h => ?_) (fun cdv A outer s H vs Q E hr h => ?_)
    · obtain ⟨v, es, one, e, ex, rfl, _⟩ := h
      rfl
    obtain ⟨v, es, one, e, ex, rfl, rv, he, hw, ok, h6, hn, lv, q⟩ := h
    refine ⟨_, pss_cons (ps_set (i := 2) scLawAllPaths.nd rfl (.inl rfl) (pe_lst pa_nil))
      (pss_cons (ps_for PassesOwn.never rfl (piListE K (pe_fn DLawEdges GLawEdges hr (pa_cons (pv 0) (pa_cons (pv 1) pa_nil)) (hk := by omega))) (pg_tupE K (by rfl) (pgs_cons (pg_name (i := 3) scLawAllPaths.nd rfl (.inl rfl)) (pgs_cons (pg_name (i := 4) scLawAllPaths.nd rfl (.inl rfl)) (pgs_cons (pg_name (i := 5) scLawAllPaths.nd rfl (.inl rfl)) pgs_nil))))
      (pss_cons (ps_setLc (i := 6) (own := [("k", 8)]) (g := gName 8) (tt := tYes) (by rfl) scLawAllPaths.nd rfl rfl (sw_true rfl rfl rfl (by decide +kernel)) (piListE K (pv 5)) (blkOk_by (N := ["entries", "one", "found", "at", "spot", "between", "prices", "step", "k", "price", "more", "further"]) (sc := defScope sLawAllPaths) (by decide +kernel)) (fun _ _ _ _ _ => (pg_name (i := 8) scLawAllPaths.nd rfl (.inl rfl))) (fun _ _ _ _ _ => pts_nil) (fun _ _ _ _ _ => (pe_ix (ixtE K) (pe_ix (ixtE K) (pv 0) (pv 8) (fun _ _ => rfl)) pe_int (fun _ _ => rfl))))
      (pss_cons (ps_set (i := 7) scLawAllPaths.nd rfl (.inl rfl) (pe_tup (pa_cons (pe_tup (pa_cons (pe_ifExp (pt_cmpR op_eq (pv 3) (pe_callB (lenE K) (by rfl) b_len (by decide +kernel) (pa_cons (pv 0) pa_nil)) (nomark _)) pe_str (pe_ix (ixtE K) (pe_ix (ixtE K) (pv 0) (pv 3) (fun _ _ => rfl)) pe_int (fun _ _ => rfl))) (pa_cons (pv 4) pa_nil))) pa_nil)))
      (pss_one (ps_if (PW.pt (pw_and (pt_cmpR (notInE K) pe_non (pv 6) (by rfl)) (pw_and1 (PW.pt (pw_or (pt_cmpR op_eq (pv 3) (pe_callB (lenE K) (by rfl) b_len (by decide +kernel) (pa_cons (pv 0) pa_nil)) (nomark _)) (pw_or1 (pt_cmpR op_eq (pe_ix (ixtE K) (pe_ix (ixtE K) (pv 0) (pv 3) (fun _ _ => rfl)) pe_int (fun _ _ => rfl)) pe_str (nomark _))))))))
      (pss_one (ps_expr (bmE K PySem.F.plainAttrs_list PySem.F.slot_list_append PySem.F.type_list_append mt_append (pv 2) (pa_cons (pe_tup (pa_cons (pe_callB (cr_sum rfl) (by rfl) b_sum (by decide +kernel) (pa_cons (pv 6) pa_nil)) (pa_cons (pv 7) (pa_cons (pv 5) pa_nil)))) pa_nil))))
      (pss_one (ps_if (pt_cmpR (notInE K) pe_non (pv 6) (by rfl))
      (pss_one (ps_for PassesOwn.never rfl (piListE K (pe_fn DLawAllPaths GLawAllPaths hr (pa_cons (pv 0) (pa_cons (pv 3) pa_nil)) (hk := Nat.le_refl _))) (pg_tupE K (by rfl) (pgs_cons (pg_name (i := 9) scLawAllPaths.nd rfl (.inl rfl)) (pgs_cons (pg_name (i := 10) scLawAllPaths.nd rfl (.inl rfl)) (pgs_cons (pg_name (i := 11) scLawAllPaths.nd rfl (.inl rfl)) pgs_nil))))
      (pss_one (ps_expr (bmE K PySem.F.plainAttrs_list PySem.F.slot_list_append PySem.F.type_list_append mt_append (pv 2) (pa_cons (pe_tup (pa_cons (pe_op op_add (pe_callB (cr_sum rfl) (by rfl) b_sum (by decide +kernel) (pa_cons (pv 6) pa_nil)) (pv 9)) (pa_cons (pe_op op_catA (pv 7) (pv 10)) (pa_cons (pe_op op_cat (pv 5) (pv 11)) pa_nil)))) pa_nil))))))
      pss_nil)))))))
      (pss_one (ps_ret (pv 2)))), ?_⟩
    have line : (100000 : Nat) < sizeLine := by decide
    refine ⟨Nat.zero_le _, fun fo nfo => ?_⟩
    have k0 : Kp [] H (upd H fo (.lst [])) := Kp.laid nfo
    have rv0 := Rp.keep (k0.mono (by simp)) _ _ (Rp.apart nfo _ _ rv)
    have lv0 : Live (fo :: ex) (upd H fo (.lst [])) := fun b hb => by
      rcases List.mem_cons.mp hb with z | z
      · rw [z, upd_same]; exact fun q => by cases q
      · exact lv.kp0 k0 b z
    have hf0 : (upd H fo (.lst [])) fo = some (.lst []) := upd_same
    obtain ⟨H0, e0⟩ : ∃ H0, upd H fo (.lst []) = H0 := ⟨_, rfl⟩
    rw [e0] at k0 rv0 lv0 hf0 ⊢
    obtain ⟨a, xs, rfl, na, ha, hx⟩ := rv0
    have naf : a ≠ fo := fun z => na (by rw [z]; simp)
    have hl : es.length = xs.length := by
      have := hx.length
      rwa [List.length_map] at this
    have hone := (List.getElem?_eq_some_iff.mp he).1
    have oke := ok e (List.mem_of_getElem? he)
    have back : ∀ {H' : Hp}, Kp [fo] H0 H' → Kp [] H H' := fun k => by
      have a : Kp [fo] H _ := (k0.mono (by simp)).trans k
      exact Kp.drop a nfo
    have hal : ∀ {H' : Hp}, Kp [fo] H0 H' → H' a = some (.tup xs) := fun k => k _ _ (by simpa using naf) ha
    have hxl : ∀ {H' : Hp}, Kp [fo] H0 H' → RpAll (fo :: ex) H' (es.map Ent.data) xs := fun k => RpAll.keep (k.mono (by simp)) _ _ hx
    have live : ∀ {H' : Hp}, Kp [fo] H0 H' → H' fo ≠ none → Live (fo :: ex) H' := fun k hb b hbm z => by
      by_cases h1 : b = fo
      · rw [h1] at z; exact hb z
      · cases h0 : H0 b with
        | none => exact lv0 b hbm h0
        | some u => rw [k b u (by simpa using h1) h0] at z; cases z
    have count := paths_count ok (n + 1) one hone
    have c1 : 4 ^ (es.length - (one + 1)) ≤ 4 ^ 5 := pow4 (by omega)
    have c2 : (4 : Nat) ^ 5 = 1024 := by decide
    have count : (pathsF es (n + 1) one).length ≤ 3072 := by omega
    refine ⟨_, rfl, _, rfl, .ref a, es, one, e, fo :: ex, rfl, ⟨a, xs, rfl, na, ha, hx⟩, he, hw, oke.ws.2, by omega, lv0, fun fe fs H1 k1 nfe hfe hfr => ?_⟩
    have nfb : fe ≠ fo := fun z => by rw [z, hf0] at nfe; cases nfe
    have hfl := hfr.length
    rw [List.length_map] at hfl
    have E1 : ∀ j, (((edgesL es one).take j).flatMap (pathsE es (pathsF es n))).length ≤ 3072 := fun j => by
      refine Nat.le_trans ?_ count
      show _ ≤ ((edgesL es one).flatMap (pathsE es (pathsF es n))).length
      conv => rhs; rw [← List.take_append_drop j (edgesL es one), List.flatMap_append, List.length_append]
      exact Nat.le_add_right _ _
    refine ⟨fe, rfl, ⟨_, .inl (.inl hfe)⟩, for_list (K := K) (a := fe) (xs := fs) (fun j σ H' => ∃ (c3 c4 c5 c6 c7 c9 c10 c11 : Option V) (gs : List V), σ = [some (.ref a), some (.int (one : Nat)), some (.ref fo), c3, c4, c5, c6, c7, none, c9, c10, c11] ∧ Kp [fo] H1 H' ∧ H' fo = some (.lst gs) ∧
        RpAll (fo :: ex) H' ((((edgesL es one).take j).flatMap (pathsE es (pathsF es n))).map apD) gs) ⟨none, none, none, none, none, none, none, none, [], rfl, Kp.refl, k1 _ _ (by simp) hf0, rfl⟩ ?_ ?_ ?_⟩
    · rintro j σ H' _ ⟨_, _, _, _, _, _, _, _, _, _, k, _⟩
      exact .inl (.inl (k _ _ (by simpa using nfb) hfe))
    · rintro j x σ H4 hxj ⟨c3, c4, c5, c6, c7, c9, c10, c11, gs, rfl, k4, hf4, hr4⟩
      obtain ⟨d, hd, rd⟩ := RpAll.back hfr hxj
      obtain ⟨ed, hed, rfl⟩ : ∃ ed, (edgesL es one)[j]? = some ed ∧ edgeVD ed = d := by
        rw [List.getElem?_map] at hd
        cases h : (edgesL es one)[j]? with
        | none => rw [h] at hd; cases hd
        | some ed => rw [h] at hd; exact ⟨ed, rfl, Option.some.inj hd⟩
      obtain ⟨ho1, ho2, ho3, ho4⟩ := edgesL_ok (by omega) (List.mem_of_getElem? hed)
      have k14 : Kp [fo] H0 H4 := (k1.mono (by simp)).trans k4
      have rd4 := Rp.keep (k4.mono (ex' := fo :: ex) (by simp)) _ _ rd
      obtain ⟨T, ts, rfl, nT, hT, hts⟩ := rd4
      obtain ⟨v0, t1, rfl, hv0, hts⟩ := hts
      obtain ⟨v1, t2, rfl, hv1, hts⟩ := hts
      obtain ⟨v2, t3, rfl, hv2, hts⟩ := hts
      obtain rfl : t3 = [] := hts
      obtain rfl : v0 = .int (ed.1 : Nat) := hv0
      obtain rfl : v1 = .str ed.2.1 := hv1
      obtain ⟨Lb, ls, rfl, nLb, hLb, hls⟩ := hv2
      have hls2 := hls
      obtain rfl := rp_ints hls
      have take1 : (edgesL es one).take (j + 1) = (edgesL es one).take j ++ [ed] := by rw [List.take_add_one, hed]; rfl
      have acc1 : ((edgesL es one).take (j + 1)).flatMap (pathsE es (pathsF es n)) = ((edgesL es one).take j).flatMap (pathsE es (pathsF es n)) ++ pathsE es (pathsF es n) ed := by
        rw [take1, List.flatMap_append]
        simp
      have long := E1 (j + 1)
      rw [acc1] at long ⊢
      have glen := hr4.length
      rw [List.length_map] at glen
      generalize ((edgesL es one).take j).flatMap (pathsE es (pathsF es n)) = acc at hr4 long glen ⊢
      rw [List.length_append] at long
      have tb0 : Tabs [] H4 := fun p hp => by cases hp
      refine ⟨T, _, rfl, .inl (.inl hT), rfl, _, _, rfl, _, _, rfl, _, _, rfl, rfl, ?_⟩
      refine ⟨_, rfl, Lb, rfl, ⟨_, .inl (.inl hLb)⟩, fun C nC => ?_⟩
      refine lc_growLT (T := []) (fun j => costV (prAt es (ed.2.2.getD j 0))) hLb nC tb0 (by rw [List.length_map]; omega) (fun H Q x hQ => hQ) (fun m y H5 Q5 hy k5 _ q5 => ?_) fun H5 k5 _ e5 => ?_
      · obtain ⟨b, hb, rfl⟩ : ∃ b, ed.2.2[m]? = some b ∧ V.int (b : Nat) = y := by
          rw [List.getElem?_map] at hy
          cases h : ed.2.2[m]? with
          | none => rw [h] at hy; cases hy
          | some b => rw [h] at hy; exact ⟨b, rfl, Option.some.inj hy⟩
        obtain ⟨eb, heb, hwb⟩ := ho4 b (List.mem_of_getElem? hb)
        obtain ⟨ds, eds, _, hd4⟩ := ent_writes hwb
        have k15 := k14.trans (k5.mono (by simp))
        refine ⟨_, rfl, _, rfl, ix_ent (hal k15) (hxl k15) heb fun vb rb => c_of (ent_ix rb eds hd4 rfl fun u ru => ?_)⟩
        rw [rp_pr ru]
        have : prAt es (ed.2.2.getD m 0) = eb.pr := by
          rw [List.getD_eq_getElem?_getD, hb]
          unfold prAt
          show (match es[b]? with | some e => e.pr | none => none) = _
          rw [heb]
        have q5 := q5 H5 Kp.refl (fun p hp => by cases hp)
        rw [this] at q5
        exact q5
      have hps : (List.range (ed.2.2.map fun k => V.int (k : Nat)).length).map (fun j => costV (prAt es (ed.2.2.getD j 0))) = (ed.2.2.map (prAt es)).map costV := by
        rw [List.length_map]
        have := range_get ed.2.2 0
        conv => rhs; rw [← this]
        rw [List.map_map, List.map_map]
        rfl
      rw [hps] at e5
      have k15 : Kp [fo] H0 H5 := k14.trans (k5.mono (by simp))
      have k45 : Kp [fo] H4 H5 := k5.mono (by simp)
      have hf5 := k5 _ _ (by simp) hf4
      have hr5 := RpAll.keep (k5.mono (ex' := fo :: ex) (by simp)) _ _ hr4
      have hLb5 := k5 _ _ (by simp) hLb
      have hpE : pathsE es (pathsF es n) ed = match total (ed.2.2.map (prAt es)) with
        | none => []
        | some s => if endsAt es ed.1 then [(s, [(nmAt es ed.1, ed.2.1)], ed.2.2)] else (pathsF es n ed.1).map fun y => (s + y.1, (nmAt es ed.1, ed.2.1) :: y.2.1, ed.2.2 ++ y.2.2) := rfl
      generalize ed.2.2.map (prAt es) = ps at e5 hpE
      -- the name of the reader, the step
      refine name_ok (i := 3) rfl rfl (hal k15) (hxl k15) ho2 ?_
      refine ⟨_, rfl, by show 2 ≤ sizeLine; omega, fun T1 nT1 => ⟨by show 1 ≤ sizeLine; omega, fun T2 nT2 => ?_⟩⟩
      have kT1 : Kp [] H5 (upd H5 T1 (.tup [.str (nmAt es ed.1), .str ed.2.1])) := Kp.laid nT1
      have kT2 : Kp [] _ (upd (upd H5 T1 (.tup [.str (nmAt es ed.1), .str ed.2.1])) T2 (.tup [.ref T1])) := Kp.laid nT2
      have kT := kT1.trans kT2
      have lv5 : Live (fo :: ex) H5 := live k15 (by rw [hf5]; exact fun q => nomatch q)
      have rT1 : Rp (fo :: ex) (upd H5 T1 (.tup [.str (nmAt es ed.1), .str ed.2.1])) (stepD (nmAt es ed.1, ed.2.1)) (.ref T1) := rp_new (lv5.fresh nT1) nT1 ⟨_, _, rfl, rfl, _, _, rfl, rfl, rfl⟩
      have rT2 : Rp (fo :: ex) (upd (upd H5 T1 (.tup [.str (nmAt es ed.1), .str ed.2.1])) T2 (.tup [.ref T1])) (pathD [(nmAt es ed.1, ed.2.1)]) (.ref T2) := rp_new ((lv5.kp0 kT1).fresh nT2) nT2 (RpAll.one rT1)
      have hT2 : (upd (upd H5 T1 (.tup [.str (nmAt es ed.1), .str ed.2.1])) T2 (.tup [.ref T1])) T2 = some (.tup [.ref T1]) := upd_same
      have nT2x : T2 ∉ fo :: ex := (lv5.kp0 kT1).fresh nT2
      have rT1' := Rp.keep (kT2.mono (ex' := fo :: ex) (by simp)) _ _ rT1
      have e7 := kT _ _ (by simp) e5
      have hf7 := kT _ _ (by simp) hf5
      have hr7 := RpAll.keep (kT.mono (ex' := fo :: ex) (by simp)) _ _ hr5
      have hLb7 := kT _ _ (by simp) hLb5
      have k17 : Kp [fo] H0 _ := k15.trans (kT.mono (by simp))
      have k47 : Kp [fo] H4 _ := k45.trans (kT.mono (by simp))
      obtain ⟨H7, eH7⟩ : ∃ H7, upd (upd H5 T1 (.tup [.str (nmAt es ed.1), .str ed.2.1])) T2 (.tup [.ref T1]) = H7 := ⟨_, rfl⟩
      rw [eH7] at e7 hf7 hr7 hLb7 k17 k47 rT2 hT2 rT1' ⊢
      have k07 : Kp [fo] H1 H7 := k4.trans k47
      have lv7 : Live (fo :: ex) H7 := live k17 (by rw [hf7]; exact fun q => nomatch q)
      have fin : ∀ (Hz : Hp) (gs' : List V) (c9 c10 c11 : Option V) (res : List AP), pathsE es (pathsF es n) ed = res → Kp [fo] H7 Hz → Hz fo = some (.lst gs') → RpAll (fo :: ex) Hz ((acc ++ res).map apD) gs' →
          ∃ (c3' c4' c5' c6' c7' c9' c10' c11' : Option V) (gs : List V), [some (V.ref a), some (.int (one : Nat)), some (.ref fo), some (.int (ed.1 : Nat)), some (.str ed.2.1), some (.ref Lb), some (.ref C), some (.ref T2), none, c9, c10, c11] = [some (.ref a), some (.int (one : Nat)), some (.ref fo), c3', c4', c5', c6', c7', none, c9', c10', c11'] ∧ Kp [fo] H1 Hz ∧ Hz fo = some (.lst gs) ∧
          RpAll (fo :: ex) Hz ((acc ++ pathsE es (pathsF es n) ed).map apD) gs := fun Hz gs' c9 c10 c11 res er k h r => ⟨_, _, _, _, _, _, _, _, gs', rfl, k07.trans k, h, by rw [er]; exact r⟩
      refine ⟨_, rfl, notin_none e7 ⟨_, rfl, ?_⟩⟩
      by_cases hm : none ∈ ps
      · rw [decide_eq_true hm]
        rw [total_none hm] at hpE
        refine iteF ?_
        refine iteF ?_
        refine ⟨_, rfl, notin_none e7 ⟨_, rfl, ?_⟩⟩
        rw [decide_eq_true hm]
        refine iteF (fin H7 gs _ _ _ [] hpE Kp.refl hf7 ?_)
        rw [List.append_nil]
        exact hr7
      rw [decide_eq_false hm]
      obtain ⟨ns, rfl⟩ := costs_some hm
      have e6 : H7 C = some (.lst (ns.map V.int)) := by
        rw [e7, List.map_map]
        rfl
      rw [total_sum] at hpE
      dsimp only at hpE
      refine iteT ?_
      refine ends_ok (i := 3) rfl rfl (hal k17) (hxl k17) ho2 ?_
      cases hend : endsAt es ed.1 with
      | true =>
        rw [hend, if_pos rfl] at hpE
        have long1 : gs.length + 1 ≤ 3072 := by rw [hpE] at long; simp at long; omega
        refine iteT ⟨_, rfl, .inl ⟨rfl, _, SqL.of hf7⟩, _, rfl, C, ns, rfl, .inl (.inl e6), _, rfl, _, rfl, by show 3 ≤ sizeLine; omega, fun T3 nT3 => ?_⟩
        have kT3 : Kp [] H7 (upd H7 T3 (.tup [.int ns.sum, .ref T2, .ref Lb])) := Kp.laid nT3
        refine ⟨fo, gs, .ref T3, rfl, rfl, kT3 _ _ (by simp) hf7, by omega, ?_⟩
        have rT3 : Rp (fo :: ex) (upd H7 T3 (.tup [.int ns.sum, .ref T2, .ref Lb])) (apD (ns.sum, [(nmAt es ed.1, ed.2.1)], ed.2.2)) (.ref T3) := rp_new (lv7.fresh nT3) nT3 ⟨_, _, rfl, rfl, _, _, rfl, rT2, RpAll.one ⟨Lb, _, rfl, nLb, hLb7, ints_rp _⟩⟩
        refine fin _ (gs ++ [.ref T3]) _ _ _ _ hpE ((kT3.mono (by simp)).trans (Kp.put (by simp))) upd_same ?_
        rw [List.map_append]
        have kF : Kp (fo :: ex) (upd H7 T3 (.tup [.int ns.sum, .ref T2, .ref Lb])) (upd (upd H7 T3 (.tup [.int ns.sum, .ref T2, .ref Lb])) fo (.lst (gs ++ [.ref T3]))) := Kp.put (by simp)
        exact RpAll.app (RpAll.keep ((kT3.mono (by simp)).trans kF) _ _ hr7) (RpAll.one (Rp.keep kF _ _ rT3))
      | false =>
        rw [hend, if_neg Bool.false_ne_true] at hpE
        have hlt : ed.1 < es.length := by
          rcases Nat.lt_or_ge ed.1 es.length with h | h
          · exact h
          · unfold endsAt at hend
            rw [List.getElem?_eq_none h] at hend
            cases hend
        obtain ⟨ek, hek⟩ : ∃ ek, es[ed.1]? = some ek := ⟨_, List.getElem?_eq_getElem hlt⟩
        have hwk : ek.isW = true := by
          unfold endsAt at hend
          rw [hek] at hend
          simpa using hend
        refine iteF ⟨_, rfl, notin_none e7 ⟨_, rfl, ?_⟩⟩
        rw [decide_eq_false hm]
        refine iteT ?_
        refine ⟨_, rfl, _, rfl, .ref a, es, ed.1, ek, fo :: ex, rfl, ⟨a, xs, rfl, na, hal k17, hxl k17⟩, hek, hwk, ok, h6, by omega, lv7, fun fr2 xs2 H8 k8 nfr2 hfr2 hxr2 => ?_⟩
        have nff : fr2 ≠ fo := fun z => by rw [z, hf7] at nfr2; cases nfr2
        have hl2 := hxr2.length
        rw [List.length_map] at hl2
        have hpl : (pathsE es (pathsF es n) ed).length = (pathsF es n ed.1).length := by rw [hpE, List.length_map]
        refine ⟨fr2, rfl, ⟨_, .inl (.inl hfr2)⟩, for_list (K := K) (a := fr2) (xs := xs2) (fun m σ H' => ∃ (c9 c10 c11 : Option V) (gs' : List V), σ = [some (.ref a), some (.int (one : Nat)), some (.ref fo), some (.int (ed.1 : Nat)), some (.str ed.2.1), some (.ref Lb), some (.ref C), some (.ref T2), none, c9, c10, c11] ∧ Kp [fo] H8 H' ∧ H' fo = some (.lst gs') ∧
          RpAll (fo :: ex) H' ((acc ++ ((pathsF es n ed.1).take m).map fun y => (ns.sum + y.1, (nmAt es ed.1, ed.2.1) :: y.2.1, ed.2.2 ++ y.2.2)).map apD) gs') ⟨_, _, _, gs, rfl, Kp.refl, k8 _ _ (by simp) hf7, ?_⟩ ?_ ?_ ?_⟩
        · rw [List.take_zero, List.map_nil, List.append_nil]
          exact RpAll.keep (k8.mono (by simp)) _ _ hr7
        · rintro m σ H' _ ⟨_, _, _, _, _, k, _⟩
          exact .inl (.inl (k _ _ (by simpa using nff) hfr2))
        · rintro m x σ H9 hxm ⟨c9, c10, c11, gs', rfl, k9, hf9, hr9⟩
          obtain ⟨d, hd, rd⟩ := RpAll.back hxr2 hxm
          obtain ⟨y, hy, rfl⟩ : ∃ y, (pathsF es n ed.1)[m]? = some y ∧ apD y = d := by
            rw [List.getElem?_map] at hd
            cases h : (pathsF es n ed.1)[m]? with
            | none => rw [h] at hd; cases hd
            | some y => rw [h] at hd; exact ⟨y, rfl, Option.some.inj hd⟩
          obtain ⟨cy, hcy, py⟩ := (paths_iff n ed.1 ek hek (by omega) y).mp (List.mem_of_getElem? hy)
          obtain ⟨pl1, pl2⟩ := py.len
          have hm3 := (List.getElem?_eq_some_iff.mp hy).1
          have k79 : Kp [fo] H7 H9 := (k8.mono (by simp)).trans k9
          have rd9 := Rp.keep (k9.mono (ex' := fo :: ex) (by simp)) _ _ rd
          obtain ⟨T4, us4, rfl, nT4, hT4, hus4⟩ := rd9
          obtain ⟨v0, t1, rfl, hv0, hus4⟩ := hus4
          obtain ⟨v1, t2, rfl, hv1, hus4⟩ := hus4
          obtain ⟨v2, t3, rfl, hv2, hus4⟩ := hus4
          obtain rfl : t3 = [] := hus4
          obtain rfl : v0 = .int y.1 := hv0
          obtain ⟨Pm, us5, rfl, nPm, hPm, hus5⟩ := hv1
          obtain ⟨Fm, us6, rfl, nFm, hFm, hus6⟩ := hv2
          have l5 := hus5.length
          have l6 := hus6.length
          rw [List.length_map] at l5 l6
          have hT29 := k79 _ _ (fun z => nT2x (by rw [List.mem_singleton.mp z]; simp)) hT2
          have e69 : H9 C = some (.lst (ns.map V.int)) := k79 _ _ (fun z => by
            have := List.mem_singleton.mp z
            rw [this, hf4] at nC
            cases nC) e6
          have hLb9 : H9 Lb = _ := k79 _ _ (fun z => nLb (by rw [List.mem_singleton.mp z]; simp)) hLb7
          have rT19 := Rp.keep (k79.mono (ex' := fo :: ex) (by simp)) _ _ rT1'
          have glen9 := hr9.length
          rw [List.length_map, List.length_append, List.length_map, List.length_take, Nat.min_eq_left (by omega)] at glen9
          have lv9 : Live (fo :: ex) H9 := live (k17.trans k79) (by rw [hf9]; exact fun q => nomatch q)
          refine ⟨T4, _, rfl, .inl (.inl hT4), rfl, _, _, rfl, _, _, rfl, _, _, rfl, rfl, ?_⟩
          refine ⟨_, rfl, .inl ⟨rfl, _, SqL.of hf9⟩, _, rfl, C, ns, rfl, .inl (.inl e69), _, rfl, _, _, rfl, rfl, _, rfl, _, rfl, catA hT29 hPm nT2x nPm (fun p hp => lv9.fresh hp) (by show [V.ref T1].length + us5.length ≤ sizeLine; simp; omega) fun p Ha ka hp npx => ?_⟩
          have hLba := ka _ _ (by simp) hLb9
          have hFma := ka _ _ (by simp) hFm
          refine ⟨_, rfl, _, rfl, Lb, Fm, _, us6, rfl, rfl, hLba, hFma, by rw [List.length_map]; omega, fun b nb => ?_⟩
          have kb : Kp [] Ha (upd Ha b (.lst (ed.2.2.map (fun k => V.int (k : Nat)) ++ us6))) := Kp.laid nb
          refine ⟨by show 3 ≤ sizeLine; omega, fun T5 nT5 => ?_⟩
          have kT5 : Kp [] _ (upd (upd Ha b (.lst (ed.2.2.map (fun k => V.int (k : Nat)) ++ us6))) T5 (.tup [.int (ns.sum + y.1), .ref p, .ref b])) := Kp.laid nT5
          have k95 := (ka.trans kb).trans kT5
          refine ⟨fo, gs', .ref T5, rfl, rfl, k95 _ _ (by simp) hf9, by omega, ?_⟩
          have rp' : Rp (fo :: ex) (upd Ha b (.lst (ed.2.2.map (fun k => V.int (k : Nat)) ++ us6))) (pathD ((nmAt es ed.1, ed.2.1) :: y.2.1)) (.ref p) := ⟨p, _, rfl, npx, kb _ _ (by simp) hp, RpAll.keep ((ka.trans kb).mono (by simp)) _ _ (show RpAll (fo :: ex) H9 ([stepD (nmAt es ed.1, ed.2.1)] ++ y.2.1.map stepD) ([V.ref T1] ++ us5) from (RpAll.one rT19).app hus5)⟩
          have rb' : Rp (fo :: ex) (upd Ha b (.lst (ed.2.2.map (fun k => V.int (k : Nat)) ++ us6))) (.list ((ed.2.2 ++ y.2.2).map intD)) (.ref b) := ⟨b, _, rfl, (lv9.kp0 ka).fresh nb, upd_same, by rw [List.map_append]; exact RpAll.keep ((ka.trans kb).mono (by simp)) _ _ ((ints_rp _).app hus6)⟩
          have rT5 : Rp (fo :: ex) (upd (upd Ha b (.lst (ed.2.2.map (fun k => V.int (k : Nat)) ++ us6))) T5 (.tup [.int (ns.sum + y.1), .ref p, .ref b])) (apD (ns.sum + y.1, (nmAt es ed.1, ed.2.1) :: y.2.1, ed.2.2 ++ y.2.2)) (.ref T5) := rp_new ((lv9.kp0 (ka.trans kb)).fresh nT5) nT5 ⟨_, _, rfl, rfl, _, _, rfl, rp', RpAll.one rb'⟩
          refine ⟨_, _, _, gs' ++ [.ref T5], rfl, k9.trans ((k95.mono (by simp)).trans (Kp.put (by simp))), upd_same, ?_⟩
          have kF : Kp (fo :: ex) (upd (upd Ha b (.lst (ed.2.2.map (fun k => V.int (k : Nat)) ++ us6))) T5 (.tup [.int (ns.sum + y.1), .ref p, .ref b])) (upd (upd (upd Ha b (.lst (ed.2.2.map (fun k => V.int (k : Nat)) ++ us6))) T5 (.tup [.int (ns.sum + y.1), .ref p, .ref b])) fo (.lst (gs' ++ [.ref T5]))) := Kp.put (by simp)
          have et : (acc ++ ((pathsF es n ed.1).take (m + 1)).map fun y => (ns.sum + y.1, (nmAt es ed.1, ed.2.1) :: y.2.1, ed.2.2 ++ y.2.2)).map apD = (acc ++ ((pathsF es n ed.1).take m).map fun y => (ns.sum + y.1, (nmAt es ed.1, ed.2.1) :: y.2.1, ed.2.2 ++ y.2.2)).map apD ++ [apD (ns.sum + y.1, (nmAt es ed.1, ed.2.1) :: y.2.1, ed.2.2 ++ y.2.2)] := by
            rw [List.take_add_one, hy]
            simp only [Option.toList, List.map_append, List.map_cons, List.map_nil, List.append_assoc]
          rw [et]
          exact RpAll.app (RpAll.keep ((k95.mono (by simp)).trans kF) _ _ hr9) (RpAll.one (Rp.keep kF _ _ rT5))
        · rintro σ H9 ⟨c9, c10, c11, gs', rfl, k9, hf9, hr9⟩
          rw [← hl2, List.take_length] at hr9
          exact fin H9 gs' _ _ _ _ hpE ((k8.mono (by simp)).trans k9) hf9 hr9
    · rintro σ H4 ⟨c3, c4, c5, c6, c7, c9, c10, c11, gs, rfl, k4, hf4, hr4⟩
      rw [← hfl, List.take_length] at hr4
      exact ⟨_, rfl, q fo gs H4 (back ((k1.mono (by simp)).trans k4)) nfo hf4 (RpAll.less (by intro b hb; simp [hb]) _ _ hr4)⟩
end
end NV
/-! C09b -/
set_option Elab.async false
set_option linter.all false
set_option maxRecDepth 100000
set_option maxHeartbeats 1000000
/-! sums of prices; a place among places; names that stand once -/
namespace NV
open PySem PySem.Spec PyProof.Rows L2
theorem ne_cost {K : PySem.W.Frag} {H : Hp} {x : Cost} {Q : VK} (q : Q (.bl false) H) : rNeD K (costV x) (costV x) H Q := by
  cases x with
  | none => exact ⟨.none, .none, .non, .non, by decide, by decide, q⟩
  | some k =>
    refine ⟨.int k, .int k, .int k, .int k, ?_, ?_, ?_⟩
    · unfold SeqAt.shaped; simp [PyData.canLay0, PyData.depth]
    · unfold SeqAt.shaped; simp [PyData.canLay0, PyData.depth]
    · have : PyData.eqv (.int k) (.int k) = true := SeqAt.eqv_refl _ (by simp [PyData.canLay0])
      rw [this]
      exact q
/-- the prices of those whose names stand in a list -/
theorem sum_gone (gone : List Str) : ∀ l : List Ent, ((l.filter fun e => decide (e.id ∈ gone)).map fun e => e.pr.getD 0).sum = priceG gone l
  | [] => rfl
  | e :: l => by
    have ih := sum_gone gone l
    unfold priceG
    by_cases h : e.id ∈ gone
    · rw [List.filter_cons_of_pos (by simp [h]), List.map_cons, List.sum_cons, if_pos h, ih]
    · rw [List.filter_cons_of_neg (by simp [h]), if_neg h, ih]
      omega
/-- a place among places -/
theorem notin_ints {K : PySem.W.Frag} {H : Hp} {a : Addr} {ns : List Int} {i : Int} {Q : VK} (ha : H a = some (.lst (ns.map V.int))) (hi : i ∈ ns) (q : Q (.bl false) H) : rIn K true (.int i) (.ref a) H Q := by
  refine ⟨a, ns.map V.int, rfl, .inl (SqL.of ha), rfl, ?_, ?_⟩
  · rw [List.all_map]
    exact List.all_eq_true.mpr fun x _ => rfl
  · have e : inV (.int i) (ns.map V.int) = true := by
      unfold inV
      rw [List.any_map, List.any_eq_true]
      exact ⟨i, hi, by show (i == i) = true; exact beq_self_eq_true i⟩
    rw [if_pos rfl, e]
    exact q
theorem id_one : ∀ {es : List Ent}, (es.map Ent.id).Nodup → ∀ {e u : Ent}, e ∈ es → u ∈ es → e.id = u.id → e = u
  | [], _, _, _, h, _, _ => by cases h
  | x :: es, nd, e, u, he, hu, h => by
    rw [List.map_cons, List.nodup_cons] at nd
    rcases List.mem_cons.mp he with rfl | he'
    · rcases List.mem_cons.mp hu with rfl | hu'
      · rfl
      · exact absurd (List.mem_map.mpr ⟨u, hu', h.symm⟩) nd.1
    · rcases List.mem_cons.mp hu with rfl | hu'
      · exact absurd (List.mem_map.mpr ⟨e, he', h⟩) nd.1
      · exact id_one nd.2 he' hu' h
end NV
/-! T3 -/
set_option Elab.async false
set_option linter.all false
set_option maxRecDepth 100000
set_option maxHeartbeats 600000
/-! rows that wait, rows that are closed one by one -/
namespace NV
open PySem PySem.Spec PyProof.Rows L2
def keyR (r : Row) : Str × Str := (r.1, r.2.1)
/-- who waits for a cell -/
def openNs (rows : List Row) (c : Str) : List Str := (rows.filter fun r => r.2.2.isNone && decide (r.2.1 = c)).map (·.1)
theorem mem_open {rows : List Row} {c a : Str} : a ∈ openNs rows c ↔ (a, c, none) ∈ rows := by
  unfold openNs
  rw [List.mem_map]
  constructor
  · rintro ⟨⟨x, y, o⟩, hr, rfl⟩
    obtain ⟨h1, h2⟩ := List.mem_filter.mp hr
    simp only [Bool.and_eq_true, decide_eq_true_eq, Option.isNone_iff_eq_none] at h2
    obtain ⟨rfl, rfl⟩ := h2
    exact h1
  · intro h
    exact ⟨_, List.mem_filter.mpr ⟨h, by simp⟩, rfl⟩
theorem open_nil {rows : List Row} {c : Str} : openNs rows c = [] ↔ ∀ r ∈ rows, (r.2.2.isNone && decide (r.2.1 = c)) = false := by
  unfold openNs
  rw [List.map_eq_nil_iff, List.filter_eq_nil_iff]
  constructor
  · intro h r hr
    exact Bool.eq_false_iff.mpr (h r hr)
  · intro h r hr
    rw [h r hr]
    exact Bool.false_ne_true
/-- some names of a cell get their source -/
def setR (w id : Str) (names : List Str) (r : Row) : Row := if r.2.1 = w ∧ r.1 ∈ names then (r.1, r.2.1, some id) else r
def setN (w id : Str) (names : List Str) (rows : List Row) : List Row := rows.map (setR w id names)
theorem setR_yes {w id : Str} {names : List Str} {r : Row} (h1 : r.2.1 = w) (h2 : r.1 ∈ names) : setR w id names r = (r.1, r.2.1, some id) := if_pos ⟨h1, h2⟩
theorem setR_no {w id : Str} {names : List Str} {r : Row} (h : ¬ (r.2.1 = w ∧ r.1 ∈ names)) : setR w id names r = r := if_neg h
theorem setR_key (w id : Str) (names : List Str) (r : Row) : keyR (setR w id names r) = keyR r := by
  unfold setR
  split <;> rfl
/-- a row whose cell is among ws is closed -/
def closeP (ws : List Str) (id : Str) (r : Row) : Row := if r.2.2.isNone && decide (r.2.1 ∈ ws) then (r.1, r.2.1, some id) else r
def closeCs (ws : List Str) (id : Str) (rows : List Row) : List Row := rows.map (closeP ws id)
theorem closeP_yes {ws : List Str} {id : Str} {r : Row} (h1 : r.2.2 = none) (h2 : r.2.1 ∈ ws) : closeP ws id r = (r.1, r.2.1, some id) := if_pos (by rw [h1]; simp [h2])
theorem closeP_no {ws : List Str} {id : Str} {r : Row} (h : ¬ (r.2.2 = none ∧ r.2.1 ∈ ws)) : closeP ws id r = r := if_neg (fun z => h (by simpa using z))
theorem closeP_key (ws : List Str) (id : Str) (r : Row) : keyR (closeP ws id r) = keyR r := by
  unfold closeP
  split <;> rfl
theorem keys_set (w id : Str) (names : List Str) (rows : List Row) : (setN w id names rows).map keyR = rows.map keyR := by
  unfold setN
  rw [List.map_map]
  exact List.map_congr_left fun r _ => setR_key w id names r
theorem keys_close (ws : List Str) (id : Str) (rows : List Row) : (closeCs ws id rows).map keyR = rows.map keyR := by
  unfold closeCs
  rw [List.map_map]
  exact List.map_congr_left fun r _ => closeP_key ws id r
theorem set_more (w id : Str) (l : List Str) (a : Str) (rows : List Row) : setN w id [a] (setN w id l rows) = setN w id (l ++ [a]) rows := by
  unfold setN
  rw [List.map_map]
  refine List.map_congr_left fun r _ => ?_
  show setR w id [a] (setR w id l r) = setR w id (l ++ [a]) r
  by_cases h1 : r.2.1 = w
  · by_cases h2 : r.1 ∈ l
    · rw [setR_yes h1 h2, setR_yes h1 (List.mem_append_left _ h2)]
      by_cases h3 : r.1 = a
      · exact setR_yes (r := (r.1, r.2.1, some id)) h1 (by rw [h3]; simp)
      · exact setR_no fun z => h3 (List.mem_singleton.mp z.2)
    · rw [setR_no (fun z => h2 z.2)]
      by_cases h3 : r.1 = a
      · rw [setR_yes h1 (by rw [h3]; simp), setR_yes h1 (by rw [h3]; simp)]
      · rw [setR_no (fun z => h3 (List.mem_singleton.mp z.2)), setR_no (fun z => (List.mem_append.mp z.2).elim h2 fun y => h3 (List.mem_singleton.mp y))]
  · rw [setR_no (names := l) (fun z => h1 z.1), setR_no (fun z => h1 z.1), setR_no (fun z => h1 z.1)]
theorem set_nil (w id : Str) (rows : List Row) : setN w id [] rows = rows := by
  unfold setN
  conv => rhs; rw [← List.map_id rows]
  exact List.map_congr_left fun r _ => setR_no fun z => by cases z.2
theorem key_inj {rows : List Row} (nd : (rows.map keyR).Nodup) {r r' : Row} (h : r ∈ rows) (h' : r' ∈ rows) (e : keyR r = keyR r') : r = r' := by
  induction rows with
  | nil => cases h
  | cons x l ih =>
    rw [List.map_cons, List.nodup_cons] at nd
    rcases List.mem_cons.mp h with a | a
    · rcases List.mem_cons.mp h' with b | b
      · rw [a, b]
      · exact absurd (by rw [← a, e]; exact List.mem_map.mpr ⟨r', b, rfl⟩) nd.1
    · rcases List.mem_cons.mp h' with b | b
      · exact absurd (by rw [← b, ← e]; exact List.mem_map.mpr ⟨r, a, rfl⟩) nd.1
      · exact ih nd.2 a b
/-- all that wait for w: then w is closed -/
theorem set_open {rows : List Row} (nd : (rows.map keyR).Nodup) (ws : List Str) (w id : Str) (hw : w ∉ ws) : setN w id (openNs (closeCs ws id rows) w) (closeCs ws id rows) = closeCs (ws ++ [w]) id rows := by
  have hn : ∀ r ∈ rows, r.2.1 = w → (r.1 ∈ openNs (closeCs ws id rows) w ↔ r.2.2 = none) := fun r hr e => by
    rw [mem_open]
    constructor
    · intro h
      obtain ⟨r', hr', he⟩ := List.mem_map.mp h
      by_cases hc : r'.2.2 = none ∧ r'.2.1 ∈ ws
      · rw [closeP_yes hc.1 hc.2] at he
        have := congrArg (fun x => x.2.2) he
        cases this
      · rw [closeP_no hc] at he
        have : r = r' := key_inj nd hr hr' (by rw [he]; unfold keyR; rw [e])
        rw [this, he]
    · intro h
      refine List.mem_map.mpr ⟨r, hr, ?_⟩
      rw [closeP_no (fun z => hw (by rw [← e]; exact z.2))]
      obtain ⟨a, b, o⟩ := r
      cases e
      cases h
      rfl
  generalize openNs (closeCs ws id rows) w = names at hn ⊢
  unfold setN closeCs
  rw [List.map_map]
  refine List.map_congr_left fun r hr => ?_
  show setR w id names (closeP ws id r) = closeP (ws ++ [w]) id r
  by_cases hc : r.2.2 = none ∧ r.2.1 ∈ ws
  · rw [closeP_yes hc.1 hc.2, closeP_yes hc.1 (List.mem_append_left _ hc.2)]
    exact setR_no fun z => hw (by rw [← z.1]; exact hc.2)
  · rw [closeP_no hc]
    by_cases e : r.2.1 = w
    · by_cases o : r.2.2 = none
      · rw [setR_yes e ((hn r hr e).2 o), closeP_yes o (by rw [e]; simp)]
      · rw [setR_no (fun z => o ((hn r hr e).1 z.2)), closeP_no (fun z => o z.1)]
    · rw [setR_no (fun z => e z.1), closeP_no (fun z => hc ⟨z.1, (List.mem_append.mp z.2).elim (fun y => y) fun y => absurd (List.mem_singleton.mp y) e⟩)]
theorem close_nil (id : Str) (rows : List Row) : closeCs [] id rows = rows := by
  unfold closeCs
  conv => rhs; rw [← List.map_id rows]
  exact List.map_congr_left fun r _ => closeP_no fun z => by cases z.2
theorem open_close {rows : List Row} {ws : List Str} {id c : Str} : openNs (closeCs ws id rows) c = if c ∈ ws then [] else openNs rows c := by
  unfold openNs closeCs
  induction rows with
  | nil => split <;> rfl
  | cons r l ih =>
    rw [List.map_cons, List.filter_cons, List.filter_cons]
    by_cases hc : r.2.2 = none ∧ r.2.1 ∈ ws
    · rw [closeP_yes hc.1 hc.2, if_neg (by simp)]
      by_cases h : c ∈ ws
      · rw [if_pos h] at ih ⊢
        exact ih
      · rw [if_neg h] at ih ⊢
        rw [ih, if_neg (fun z => h ?_)]
        simp only [Bool.and_eq_true, decide_eq_true_eq] at z
        rw [← z.2]
        exact hc.2
    · rw [closeP_no hc]
      by_cases h : c ∈ ws
      · rw [if_pos h] at ih ⊢
        rw [if_neg (fun z => hc ?_)]
        · exact ih
        · simp only [Bool.and_eq_true, decide_eq_true_eq, Option.isNone_iff_eq_none] at z
          exact ⟨z.1, by rw [z.2]; exact h⟩
      · rw [if_neg h] at ih ⊢
        split
        · rw [List.map_cons, List.map_cons, ih]
        · exact ih
/-- the step, as the program does it -/
theorem step_close {e : Ent} {rows : List Row} {ws : List Str} (h : ∀ c, c ∈ ws ↔ c ∈ e.ws ∧ openNs rows c ≠ []) : stepT e rows = if ws = [] then rows else closeCs ws e.id rows ++ e.rs.map fun c => (e.id, c, none) := by
  have same : ∀ r ∈ rows, openIn e r = (r.2.2.isNone && decide (r.2.1 ∈ ws)) := fun r hr => by
    unfold openIn
    cases ho : r.2.2 with
    | some x => rfl
    | none =>
      have ne : openNs rows r.2.1 ≠ [] := fun z => by
        have := open_nil.1 z r hr
        rw [ho] at this
        simp at this
      rw [decide_eq_decide.mpr (show r.2.1 ∈ e.ws ↔ r.2.1 ∈ ws from ⟨fun z => (h _).2 ⟨z, ne⟩, fun z => ((h _).1 z).1⟩)]
  unfold stepT
  by_cases hw : ws = []
  · have no : rows.any (openIn e) = false := by
      rw [List.any_eq_false]
      intro r hr
      rw [same r hr, hw]
      simp
    rw [no, if_neg Bool.false_ne_true, if_pos hw]
  · have yes : rows.any (openIn e) = true := by
      obtain ⟨c, hc⟩ := List.exists_mem_of_ne_nil _ hw
      have h2 := (h c).1 hc
      rw [List.any_eq_true]
      obtain ⟨a, ha⟩ := List.exists_mem_of_ne_nil _ h2.2
      have hr := mem_open.1 ha
      exact ⟨_, hr, by rw [same _ hr]; simp [hc]⟩
    rw [yes, if_pos rfl, if_neg hw]
    congr 1
    refine List.map_congr_left fun r hr => ?_
    unfold closeR closeP
    rw [same r hr]
/-! ### what the rows are like -/
theorem back_names {row : Row} : ∀ {l : List Ent}, ∀ r ∈ backL l [row], r.1 = row.1 ∨ r.1 ∈ l.map Ent.id
  | [], r, h => .inl (by rw [List.mem_singleton.mp h])
  | e :: l, r, h => by
    have ih := back_names (row := row) (l := l)
    have up : ∀ r' ∈ backL l [row], r'.1 = row.1 ∨ r'.1 ∈ (e :: l).map Ent.id := fun r' h' => (ih r' h').imp id fun z => List.mem_cons_of_mem _ z
    have h : r ∈ stepT e (backL l [row]) := h
    unfold stepT at h
    split at h
    · rcases List.mem_append.mp h with z | z
      · obtain ⟨r', h', rfl⟩ := List.mem_map.mp z
        have : (closeR e r').1 = r'.1 := by unfold closeR; split <;> rfl
        rw [this]
        exact up r' h'
      · obtain ⟨c, _, rfl⟩ := List.mem_map.mp z
        exact .inr List.mem_cons_self
    · exact up r h
theorem keys_closeR (e : Ent) (rows : List Row) : (rows.map (closeR e)).map keyR = rows.map keyR := by
  rw [List.map_map]
  refine List.map_congr_left fun r _ => ?_
  show keyR (closeR e r) = _
  unfold closeR
  split <;> rfl
theorem nodup_mapi {α β : Type} {f : α → β} (inj : ∀ a b, f a = f b → a = b) : ∀ {l : List α}, l.Nodup → (l.map f).Nodup
  | [], _ => List.nodup_nil
  | x :: l, h => by
    rw [List.nodup_cons] at h
    rw [List.map_cons, List.nodup_cons]
    refine ⟨fun z => ?_, nodup_mapi inj h.2⟩
    obtain ⟨y, hy, e⟩ := List.mem_map.mp z
    exact h.1 (by rw [← inj _ _ e]; exact hy)
theorem back_nd {row : Row} : ∀ {l : List Ent}, (l.map Ent.id).Nodup → row.1 ∉ l.map Ent.id → (∀ e ∈ l, e.rs.Nodup) → ((backL l [row]).map keyR).Nodup
  | [], _, _, _ => by
    show ([keyR row] : List _).Nodup
    simp
  | e :: l, nd, nz, hr => by
    rw [List.map_cons, List.nodup_cons] at nd
    have nz2 : row.1 ∉ l.map Ent.id := fun z => nz (List.mem_cons_of_mem _ z)
    have ih := back_nd (row := row) nd.2 nz2 fun u hu => hr u (List.mem_cons_of_mem _ hu)
    show ((stepT e (backL l [row])).map keyR).Nodup
    unfold stepT
    split
    · rw [List.map_append, keys_closeR, List.map_map]
      refine List.nodup_append.mpr ⟨ih, nodup_mapi (fun a b h => congrArg Prod.snd h) (hr e List.mem_cons_self), fun a ha b hb => ?_⟩
      obtain ⟨c, _, rfl⟩ := List.mem_map.mp hb
      obtain ⟨r, h, rfl⟩ := List.mem_map.mp ha
      intro z
      have z1 : r.1 = e.id := congrArg Prod.fst z
      rcases back_names r h with q | q
      · exact nz (by rw [← q, z1]; exact List.mem_cons_self)
      · exact nd.1 (by rw [← z1]; exact q)
    · exact ih
theorem back_len {row : Row} : ∀ {l : List Ent}, (∀ e ∈ l, e.rs.length ≤ 3) → (backL l [row]).length ≤ 1 + 3 * l.length
  | [], _ => Nat.le_refl _
  | e :: l, h => by
    have ih := back_len (row := row) (l := l) fun u hu => h u (List.mem_cons_of_mem _ hu)
    have := h e List.mem_cons_self
    show (stepT e (backL l [row])).length ≤ _
    rw [List.length_cons]
    unfold stepT
    split
    · rw [List.length_append, List.length_map, List.length_map]
      omega
    · omega
theorem open_snoc (rows : List Row) (a r c : Str) : openNs (rows ++ [(a, r, none)]) c = if c = r then openNs rows c ++ [a] else openNs rows c := by
  unfold openNs
  rw [List.filter_append, List.map_append]
  by_cases h : c = r
  · rw [if_pos h, List.filter_cons_of_pos (by simp [h])]
    rfl
  · rw [if_neg h, List.filter_cons_of_neg (by simp; exact fun z => h z.symm)]
    simp
end NV
/-! DictU -/
set_option Elab.async false
set_option linter.all false
set_option maxRecDepth 100000
set_option maxHeartbeats 600000
/-! a dict copied, a dict joined into another -/
namespace NV
open PySem PySem.Spec PyProof.Rows
open L2
def rDictD : List V → Hp → VK → Prop := fun xs H Q => ∃ (a : Addr) (kvs : List (L2.Key × V)), xs = [.ref a] ∧ H a = some (.dK kvs) ∧ ∀ p, H p = none → Q (.ref p) (upd H p (.dK kvs))
def rUpd : V → List V → Hp → VK → Prop := fun x xs H Q => ∃ (a b : Addr) (kvs more : List (L2.Key × V)), x = .ref a ∧ xs = [.ref b] ∧ a ≠ b ∧ H a = some (.dK kvs) ∧ H b = some (.dK more) ∧ kvs.length + more.length ≤ sizeLine ∧ Q .non (upd H a (.dK (mergeK kvs more)))
section
variable {X : Cx}
theorem call_dictD : CallR X (.type "dict") rDictD := by
  intro pins s σ H xs us Q I r q
  obtain ⟨a, kvs, rfl, e, q⟩ := q
  obtain ⟨u, rfl, rx⟩ := vals1 r
  obtain rfl : u = Value.ref a := rx
  exact d_copyOf I (.inl e) fun p s' np J => ⟨.ref p, _, J, rfl, q p np⟩
theorem mt_update : MtR X "dict.update" rUpd := by
  intro pins s σ H x xs v us Q I rx rxs h
  obtain ⟨a, b, kvs, more, rfl, rfl, ne, ha, hb, hz, q⟩ := h
  obtain rfl : v = Value.ref a := rx
  obtain ⟨u, rfl, ru⟩ := vals1 rxs
  obtain rfl : u = Value.ref b := ru
  obtain ⟨za, hda, va, ra, da⟩ := dk_of I.hok ha
  obtain ⟨zb, hdb, vb, rb, db⟩ := dk_of I.hok hb
  have la : kvs.length = va.length := Paired.length ra
  have lb : more.length = vb.length := Paired.length rb
  refine call_meetsIn PySem.F.slot_dict_update da.typeIs PySem.F.entry_dict_update (PySem.F.args_dict_update_2 _ _) (meets_dict_update (mixKind X.prog X.w) a b ne hdb) ⟨va, vb, da, db, by omega, fun h' d' _ hs => ?_⟩
  have there : ∃ q, h'.get? a = some q := let ⟨q, _, _, hq, _⟩ := d'; ⟨q, hq⟩
  have hl : (mergeK kvs more).length ≤ sizeLine := Nat.le_trans (length_mergeK more kvs) hz
  exact ⟨.non, _, d_write (t' := s.toks) I (by rw [ha]; exact True.intro) hs there (dk_new hl hda (rb.merge ra) d'), rfl, q⟩
end
end NV
/-! U1 -/
set_option Elab.async false
set_option linter.all false
set_option maxRecDepth 100000
set_option maxHeartbeats 1000000
/-! the law's _law_snapshots: the last writers, ahead of each entry and at the end -/
namespace NV
open PySem PySem.Spec PyProof.Rows L2
open C8 (pss_cut pe_gc)
abbrev sLawSnapshots : Stmt := topS 51
theorem scLawSnapshots : FnScope ["entries", "gone", "last", "found", "at", "entry", "cell"] ["entries", "gone"] (defScope sLawSnapshots) := ⟨rfl, rfl, rfl, by decide +kernel, rfl, by decide +kernel, by decide +kernel⟩
/-- a dict from cells to positions -/
def SnapD (d : Addr) (f : Str → Option Nat) (n : Nat) (H : Hp) : Prop := ∃ kvs : List (L2.Key × V), H d = some (.dK kvs) ∧ kvs.length ≤ n ∧ ∀ c : Str, valV kvs (Sum.inr c : L2.Key) = (f c).map fun j => V.int (j : Nat)
theorem SnapD.keep {d : Addr} {f : Str → Option Nat} {n : Nat} {H H' : Hp} (h : SnapD d f n H) (k : Kp [] H H') : SnapD d f n H' := by
  obtain ⟨kvs, e, r⟩ := h
  exact ⟨kvs, k _ _ (by simp) e, r⟩
theorem SnapD.off {d b : Addr} {f : Str → Option Nat} {n : Nat} {H H' : Hp} (h : SnapD d f n H) (k : Kp [b] H H') (hb : d ≠ b) : SnapD d f n H' := by
  obtain ⟨kvs, e, r⟩ := h
  exact ⟨kvs, k _ _ (by simpa using hb) e, r⟩
theorem SnapD.get {d : Addr} {f : Str → Option Nat} {n : Nat} {H : Hp} (h : SnapD d f n H) (c : Str) : IsD H d ∧ DGet H d (.str c) ((f c).map fun j => V.int (j : Nat)) := by
  obtain ⟨kvs, e, _, q⟩ := h
  refine ⟨.inl ⟨kvs, .inl e⟩, ?_⟩
  rw [← q c]
  exact DGet.k (k := Sum.inr c) e
def natV : Option Nat → V
  | none => .non
  | some j => .int (j : Nat)
theorem natV_get (o : Option Nat) : ((o.map fun j => V.int (j : Nat)).getD .non) = natV o := by cases o <;> rfl
/-- the dicts' list: one ahead of each entry, one at the end -/
structure SnapsAt (p : Addr) (es : List Ent) (H : Hp) : Prop where
  at_ : ∃ ds : List Addr, H p = some (.lst (ds.map V.ref)) ∧ ds.length = es.length + 1 ∧ ∀ i d, ds[i]? = some d → SnapD d (lastIx es i) 400 H
theorem SnapsAt.keep {p : Addr} {es : List Ent} {H H' : Hp} (h : SnapsAt p es H) (k : Kp [] H H') : SnapsAt p es H' := by
  obtain ⟨ds, e, l, q⟩ := h
  exact ⟨ds, k _ _ (by simp) e, l, fun i d hi => (q i d hi).keep k⟩
theorem SnapsAt.ix {p : Addr} {es : List Ent} {H : Hp} (h : SnapsAt p es H) {i : Nat} (hi : i ≤ es.length) : ∃ (ds : List Addr) (d : Addr), H p = some (.lst (ds.map V.ref)) ∧ (ds.map V.ref)[i]? = some (.ref d) ∧ SnapD d (lastIx es i) 400 H := by
  obtain ⟨ds, e, l, q⟩ := h
  have hd : i < ds.length := by omega
  exact ⟨ds, ds[i], e, by rw [List.getElem?_map, List.getElem?_eq_getElem hd]; rfl, q i _ (List.getElem?_eq_getElem hd)⟩
/-- an item of a list, by its place -/
theorem ix_lst {K : PySem.W.Frag} {H : Hp} {p : Addr} {xs : List V} {x : V} {j : Nat} {i : Int} {Q : VK} (hp : H p = some (.lst xs)) (hx : xs[j]? = some x) (ei : i = (j : Int)) (q : Q x H) : rIxL K (.ref p) (.int i) H Q := by
  subst ei
  exact ⟨p, xs, _, x, rfl, rfl, .inl (.inl hp), atI_nat hx, q⟩
theorem in_lst {K : PySem.W.Frag} {H : Hp} {a : Addr} {zs : List Str} {c : Str} {Q : VK} (neg : Bool) (ha : H a = some (.lst (zs.map V.str))) (q : Q (.bl (if neg then decide (c ∉ zs) else decide (c ∈ zs))) H) : rIn K neg (.str c) (.ref a) H Q := by
  refine ⟨a, _, rfl, .inl (.inl (.inl ha)), rfl, ?_, ?_⟩
  · rw [List.all_map]
    exact List.all_eq_true.mpr fun x _ => rfl
  · have e : inV (.str c) (zs.map V.str) = decide (c ∈ zs) := by
      unfold inV
      rw [List.any_map, Bool.eq_iff_iff, List.any_eq_true, decide_eq_true_iff]
      constructor
      · rintro ⟨y, hy, h⟩
        have h : (y == c) = true := h
        rw [← eq_of_beq h]
        exact hy
      · intro h
        exact ⟨c, h, by show (c == c) = true; exact beq_self_eq_true c⟩
    rw [e]
    cases neg with
    | false => exact q
    | true =>
      have : (!decide (c ∈ zs)) = decide (c ∉ zs) := by by_cases h : c ∈ zs <;> simp [h]
      rw [if_pos rfl, this]
      exact q
theorem mergeK_nodup : ∀ (l kvs : List (L2.Key × V)), (kvs.map (·.1) ++ l.map (·.1)).Nodup → mergeK kvs l = kvs ++ l
  | [], kvs, _ => by
    rw [List.append_nil]
    rfl
  | p :: l, kvs, h => by
    show mergeK (putK kvs p.1 p.2) l = _
    have hn : p.1 ∉ kvs.map (·.1) := fun z => by
      rw [List.nodup_append] at h
      exact h.2.2 _ z _ List.mem_cons_self rfl
    have nk : valV kvs p.1 = none := by
      cases hv : valV kvs p.1 with
      | none => rfl
      | some v =>
        have ha : (kvs.any fun kv => decide (kv.1 = p.1)) = true := by rw [valV_any, hv]; rfl
        obtain ⟨x, hx, hd⟩ := List.any_eq_true.mp ha
        exact absurd (List.mem_map.mpr ⟨x, hx, of_decide_eq_true hd⟩) hn
    rw [putK_new _ nk, mergeK_nodup l _ ?_, List.append_assoc]
    · rfl
    · rw [List.map_append, List.append_assoc]
      exact h
theorem valV_merge (v : V) (k : L2.Key) : ∀ (l kvs : List (L2.Key × V)), (∀ p ∈ l, p.2 = v) → valV (mergeK kvs l) k = if (l.any fun p => decide (p.1 = k)) = true then some v else valV kvs k
  | [], kvs, _ => rfl
  | p :: l, kvs, h => by
    show valV (mergeK (putK kvs p.1 p.2) l) k = _
    rw [valV_merge v k l _ fun q hq => h q (List.mem_cons_of_mem _ hq), valV_put, h p List.mem_cons_self, List.any_cons]
    by_cases h1 : (l.any fun p => decide (p.1 = k)) = true
    · rw [if_pos h1, h1, Bool.or_true, if_pos rfl]
    · rw [if_neg h1]
      by_cases h2 : k = p.1
      · rw [if_pos h2, decide_eq_true h2.symm, Bool.true_or, if_pos rfl]
      · rw [if_neg h2, decide_eq_false (fun z => h2 z.symm), Bool.false_or, if_neg h1]
theorem lastIx_succ (es : List Ent) (i : Nat) (c : Str) : lastIx es (i + 1) c = if wr es i c then some i else lastIx es i c := rfl
theorem wr_bl {es : List Ent} {gone : List Str} {i : Nat} {e : Ent} (he : es[i]? = some e) (c : Str) : wr (es.map (bl gone)) i c = (decide (e.id ∉ gone) && decide (c ∈ e.ws)) := by
  unfold wr
  rw [List.getElem?_map, he]
  show decide (c ∈ (bl gone e).ws) = _
  by_cases hg : e.id ∈ gone
  · have hb : bl gone e = .wr e.id [] [] none := if_pos hg
    rw [hb, decide_eq_false (show ¬ e.id ∉ gone from fun z => z hg)]
    rfl
  · have hb : bl gone e = e := if_neg hg
    rw [hb, decide_eq_true (show e.id ∉ gone from hg)]
    rfl
def spSnaps : Sp := fun vs H Q _ => ∃ (v : V) (g : Addr) (es : List Ent) (gone : List Str) (ex : List Addr), vs = [v, .ref g] ∧ Rp ex H (logD es) v ∧ (∀ e ∈ es, e.Ok) ∧ es.length ≤ 100 ∧ H g = some (.lst (gone.map V.str)) ∧ gone.length ≤ 1000 ∧ Live ex H ∧ ∀ p H', Kp [] H H' → SnapsAt p (es.map (bl gone)) H' → Q (.ref p) H'
section
variable {P : Program} {w : World} {K : PySem.W.Frag} {mg : Str → Option Value} {base : Heap}
theorem ok_snaps (DLawSnapshots : Fn K mg "_law_snapshots" sLawSnapshots ["entries", "gone"]) (b_enumerate : mg "enumerate" = none) (b_dict : mg "dict" = none) : FnOk P w K mg base CX0 1 DLawSnapshots.f DLawSnapshots.fd ["entries", "gone"] spSnaps := by
  refine DLawSnapshots.F.ok scLawSnapshots (fun vs H Q E h => ?_) (fun cdv A outer s H vs Q E hr h => ?_)
  · obtain ⟨v, g, es, gone, ex, rfl, _⟩ := h
    rfl
  obtain ⟨v, g, es, gone, ex, rfl, rv, ok, h100, hg, hgl, lv, q⟩ := h
  have line : (100000 : Nat) < sizeLine := by decide
  refine ⟨_, pss_cons (ps_par (i := 2) (j := 3) rfl scLawSnapshots.nd rfl rfl (by decide) rfl rfl (pa_cons pe_dnewK (pa_cons (pe_lst pa_nil) pa_nil)) rfl)
      (pss_cons (ps_for PassesOwn.never rfl (pi_enumT K (by rfl) b_enumerate (pa_cons (pv 0) pa_nil)) (pg_tupE K (by rfl) (pgs_cons (pg_name (i := 4) scLawSnapshots.nd rfl (.inr rfl)) (pgs_cons (pg_name (i := 5) scLawSnapshots.nd rfl (.inl rfl)) pgs_nil)))
      (pss_cons (ps_expr (bmE K PySem.F.plainAttrs_list PySem.F.slot_list_append PySem.F.type_list_append mt_append (pv 3) (pa_cons (pe_callTy call_dictD (by rfl) b_dict (by decide +kernel) (pa_cons (pv 2) pa_nil)) pa_nil)))
      (pss_one (ps_if (PW.pt (pw_and (pt_cmpR op_eq (pe_ix (ixtE K) (pv 5) pe_int (fun _ _ => rfl)) pe_str (nomark _)) (pw_and1 (pt_cmpR (notInE K) (pe_ix (ixtE K) (pv 5) pe_int (fun _ _ => rfl)) (pv 1) (by rfl)))))
      (pss_one (ps_expr (bmE K PySem.F.plainAttrs_dict PySem.F.slot_dict_update PySem.F.type_dict_update mt_update (pv 2) (pa_cons (pe_callTy (call_dictP (by rfl)) (by rfl) b_dict (by decide +kernel) (pa_cons (pe_lc (own := [("cell", 6)]) (g := gName 6) (tt := tYes) (by rfl) scLawSnapshots.nd (piTupE K (pe_ix (ixtE K) (pv 5) pe_int (fun _ _ => rfl))) (blkOk_by (N := ["entries", "gone", "last", "found", "at", "entry", "cell"]) (sc := defScope sLawSnapshots) (by decide +kernel)) (fun _ _ _ _ _ => (pg_name (i := 6) scLawSnapshots.nd rfl (.inl rfl))) (fun _ _ _ _ _ => pts_nil) (fun _ _ _ _ _ => (pe_tup (pa_cons (pv 6) (pa_cons (pv 4) pa_nil))))) pa_nil)) pa_nil))))
      pss_nil))))
      (pss_one (ps_ret (pe_op op_cat (pv 3) (pe_lst (pa_cons (pv 2) pa_nil)))))), ?_⟩
  obtain ⟨a, xs, rfl, na, ha, hx⟩ := rv
  have hl : es.length = xs.length := by
    have := hx.length
    rwa [List.length_map] at this
  intro LD nLD
  refine ⟨(by show 0 ≤ sizeLine; decide), fun FP nFP => ⟨_, _, rfl, ?_⟩⟩
  have nLF : LD ≠ FP := fun z => by rw [← z, upd_same] at nFP; cases nFP
  have k0 : Kp [] H (upd (upd H LD (.dK [])) FP (.lst [])) := (Kp.laid nLD).trans (Kp.laid nFP)
  have hLD0 : (upd (upd H LD (.dK [])) FP (.lst [])) LD = some (.dK []) := by rw [upd_ne nLF]; exact upd_same
  have hFP0 : (upd (upd H LD (.dK [])) FP (.lst [])) FP = some (.lst []) := upd_same
  have nFP0 : H FP = none := kp_none (Kp.laid nLD) nFP
  obtain ⟨H0, e0⟩ : ∃ H0, upd (upd H LD (.dK [])) FP (.lst []) = H0 := ⟨_, rfl⟩
  rw [e0] at k0 hLD0 hFP0
  rw [e0]
  have ha0 := k0 _ _ (by simp) ha
  have hg0 := k0 _ _ (by simp) hg
  have naL : a ≠ LD := fun z => by rw [z, hLD0] at ha0; cases ha0
  have naF : a ≠ FP := fun z => by rw [z, hFP0] at ha0; cases ha0
  have ngL : g ≠ LD := fun z => by rw [z, hLD0] at hg0; cases hg0
  have ngF : g ≠ FP := fun z => by rw [z, nFP0] at hg; cases hg
  have back : ∀ {H' : Hp}, Kp [LD, FP] H0 H' → Kp [] H H' := fun k => Kp.drop (Kp.drop ((k0.mono (by simp)).trans k) nLD) nFP0
  have atA : ∀ {H' : Hp}, Kp [LD, FP] H0 H' → H' a = some (.tup xs) := fun k => k _ _ (by simp [naL, naF]) ha0
  have atG : ∀ {H' : Hp}, Kp [LD, FP] H0 H' → H' g = some (.lst (gone.map V.str)) := fun k => k _ _ (by simp [ngL, ngF]) hg0
  generalize hes : es.map (bl gone) = es' at q
  have hel : es'.length = es.length := by rw [← hes, List.length_map]
  refine ⟨_, rfl, a, xs, rfl, .inl (.inl ha0), for_enumT (K := K) (a := a) (xs := xs) (fun i σ H' => ∃ c4 c5 : Option V, σ = [some (.ref a), some (.ref g), some (.ref LD), some (.ref FP), c4, c5, none] ∧ Kp [LD, FP] H0 H' ∧ SnapD LD (lastIx es' i) (3 * i) H' ∧ ∃ ds : List Addr, H' FP = some (.lst (ds.map V.ref)) ∧ ds.length = i ∧ (∀ d ∈ ds, d ≠ LD ∧ d ≠ FP) ∧ ∀ m d, ds[m]? = some d → SnapD d (lastIx es' m) 400 H')
    ⟨none, none, rfl, Kp.refl, ⟨[], hLD0, Nat.le_refl _, fun c => rfl⟩, [], hFP0, rfl, (fun d hd => by cases hd), fun m d hm => by cases hm⟩ (fun i σ H' ⟨_, _, _, k, _⟩ => .inl (.inl (atA k))) ?_ ?_⟩
  · rintro i x T σ H1 hxi ⟨c4, c5, rfl, k1, snap, ds, hds, dl, dne, dall⟩ nT
    have hi : i < es.length := by
      have := (List.getElem?_eq_some_iff.mp hxi).1
      omega
    have kT : Kp [] H1 (upd H1 T (.tup [.int (i : Nat), x])) := Kp.laid nT
    have hT : (upd H1 T (.tup [.int (i : Nat), x])) T = some (.tup [.int (i : Nat), x]) := upd_same
    obtain ⟨e, he⟩ : ∃ e, es[i]? = some e := ⟨_, List.getElem?_eq_getElem hi⟩
    obtain ⟨x', hx', rx⟩ := RpAll.at hx (show (es.map Ent.data)[i]? = some e.data by rw [List.getElem?_map, he]; rfl)
    rw [hxi] at hx'
    obtain rfl := Option.some.inj hx'
    have oke := ok e (List.mem_of_getElem? he)
    refine ⟨T, _, rfl, .inl (.inl hT), rfl, _, _, rfl, _, _, rfl, rfl, ?_⟩
    generalize upd H1 T (.tup [.int (i : Nat), x]) = H2 at kT hT ⊢
    have k2 : Kp [LD, FP] H0 H2 := k1.trans (kT.mono (by simp))
    have snap2 := snap.keep kT
    have hds2 := kT _ _ (by simp) hds
    have dall2 : ∀ m d, ds[m]? = some d → SnapD d (lastIx es' m) 400 H2 := fun m d hm => (dall m d hm).keep kT
    obtain ⟨kvs, ek, lk, hk⟩ := id snap2
    -- the copy
    refine ⟨_, rfl, .inl ⟨rfl, _, SqL.of hds2⟩, _, rfl, LD, kvs, rfl, ek, fun D nD => ?_⟩
    have nDL : D ≠ LD := fun z => by rw [z, ek] at nD; cases nD
    have nDF : D ≠ FP := fun z => by rw [z, hds2] at nD; cases nD
    have kD : Kp [] H2 (upd H2 D (.dK kvs)) := Kp.laid nD
    have hdsD := kD _ _ (by simp) hds2
    have snapD : SnapD D (lastIx es' i) 400 (upd H2 D (.dK kvs)) := ⟨kvs, upd_same, by omega, hk⟩
    have snap3 := snap2.keep kD
    have dall3 : ∀ m d, ds[m]? = some d → SnapD d (lastIx es' m) 400 (upd H2 D (.dK kvs)) := fun m d hm => (dall2 m d hm).keep kD
    refine ⟨FP, _, _, rfl, rfl, hdsD, by rw [List.length_map]; omega, ?_⟩
    have kF : Kp [FP] (upd H2 D (.dK kvs)) (upd (upd H2 D (.dK kvs)) FP (.lst (ds.map V.ref ++ [.ref D]))) := Kp.put (by simp)
    have hFP4 : (upd (upd H2 D (.dK kvs)) FP (.lst (ds.map V.ref ++ [.ref D]))) FP = some (.lst ((ds ++ [D]).map V.ref)) := by rw [upd_same, List.map_append]; rfl
    have snap4 := snap3.off kF nLF
    have all4 : ∀ m d, (ds ++ [D])[m]? = some d → SnapD d (lastIx es' m) 400 (upd (upd H2 D (.dK kvs)) FP (.lst (ds.map V.ref ++ [.ref D]))) := fun m d hm => by
      rcases Nat.lt_or_ge m ds.length with h | h
      · rw [List.getElem?_append_left h] at hm
        exact (dall3 m d hm).off kF (dne d (List.mem_of_getElem? hm)).2
      · rw [List.getElem?_append_right h] at hm
        have hm0 : m - ds.length = 0 := by
          cases hq : m - ds.length with
          | zero => rfl
          | succ n => rw [hq] at hm; cases hm
        rw [hm0] at hm
        obtain rfl : D = d := Option.some.inj hm
        rw [show m = i by omega]
        exact snapD.off kF nDF
    have ne4 : ∀ d ∈ ds ++ [D], d ≠ LD ∧ d ≠ FP := fun d hd => by
      rcases List.mem_append.mp hd with h | h
      · exact dne d h
      · rw [List.mem_singleton.mp h]; exact ⟨nDL, nDF⟩
    have k4 : Kp [LD, FP] H0 (upd (upd H2 D (.dK kvs)) FP (.lst (ds.map V.ref ++ [.ref D]))) := (k2.trans (kD.mono (by simp))).trans (kF.mono (by simp))
    have len4 : (ds ++ [D]).length = i + 1 := by rw [List.length_append, dl]; rfl
    generalize upd (upd H2 D (.dK kvs)) FP (.lst (ds.map V.ref ++ [.ref D])) = H4 at hFP4 snap4 all4 k4 ⊢
    generalize ds ++ [D] = ds4 at hFP4 all4 ne4 len4
    have re4 : Rp ex H4 e.data x := Rp.keep ((back k4).mono (by simp)) _ _ rx
    obtain ⟨d0, ed0, hd0⟩ := ent_kind e
    obtain ⟨d1, ed1, hd1, _⟩ := ent_reads e
    refine ⟨_, rfl, c_of (ent_ix re4 ed0 hd0 rfl fun vk rk => ?_)⟩
    obtain rfl : vk = .str (if e.isW then "write" else "query") := rk
    refine ⟨rfl, _, rfl, ?_⟩
    rw [kind_w]
    have hwr := fun c => wr_bl (gone := gone) he c
    rw [hes] at hwr
    have same : (∀ c, wr es' i c = false) → SnapD LD (lastIx es' (i + 1)) (3 * (i + 1)) H4 := fun h => by
      obtain ⟨kv, e1, l1, q1⟩ := snap4
      exact ⟨kv, e1, by omega, fun c => by rw [q1 c, lastIx_succ, h c, if_neg Bool.false_ne_true]⟩
    cases hw : e.isW with
    | false =>
      refine iteF ⟨_, _, rfl, k4, same fun c => ?_, ds4, hFP4, len4, ne4, all4⟩
      rw [hwr c]
      cases e with
      | wr _ _ _ _ => cases hw
      | qu id cs =>
        show (_ && decide (c ∈ ([] : List Str))) = false
        simp
    | true =>
      refine iteT ⟨_, rfl, c_of (ent_ix re4 ed1 hd1 rfl fun vi ri => ?_)⟩
      obtain rfl : vi = .str e.id := ri
      refine ⟨_, rfl, in_lst true (atG k4) ⟨_, rfl, ?_⟩⟩
      rw [if_pos rfl]
      by_cases hgn : e.id ∈ gone
      · rw [decide_eq_false (show ¬ e.id ∉ gone from fun z => z hgn)]
        refine iteF ⟨_, _, rfl, k4, same fun c => ?_, ds4, hFP4, len4, ne4, all4⟩
        rw [hwr c, decide_eq_false (show ¬ e.id ∉ gone from fun z => z hgn)]
        rfl
      · rw [decide_eq_true (show e.id ∉ gone from hgn)]
        obtain ⟨d3, ed3, hd3, _⟩ := ent_writes hw
        obtain ⟨kv, e1, l1, q1⟩ := id snap4
        refine iteT ⟨_, rfl, .inr (.inr (.inl ⟨rfl, .inl ⟨kv, e1⟩⟩)), _, rfl, c_of (ent_ix re4 ed3 hd3 rfl fun u ru => ?_)⟩
        obtain ⟨wa, cs, rfl, nwa, hwa, hcs⟩ := ru
        obtain rfl := strs_of hcs
        have hw3 := oke.ws
        refine ⟨wa, rfl, ⟨_, .inl (.inl hwa)⟩, fun C nC => ?_⟩
        have nwC : wa ≠ C := fun z => by rw [z, nC] at hwa; cases hwa
        refine lc_inv (J := Itt K wa) e.ws.length (fun m H' => Kp [C] H4 H' ∧ ∃ ps : List Addr, H' C = some (.lst (ps.map V.ref)) ∧ ps.length = m ∧ ∀ (n : Nat) (p : Addr) (c : Str), ps[n]? = some p → e.ws[n]? = some c → H' p = some (.tup [.str c, .int (i : Nat)]) ∧ p ≠ C) ⟨Kp.laid nC, [], upd_same, rfl, fun n p c hn => by cases hn⟩ ?_ (fun m H' hm ⟨k, _⟩ => ⟨_, _, .inl (.inl (k _ _ (by simpa using nwC) hwa)), List.getElem?_eq_getElem (by rw [List.length_map]; exact hm)⟩) ?_
        case refine_2 =>
          rintro m H5 y H6 hm ⟨k5, ps, hC5, hpl, hps⟩ ⟨rfl, hy⟩
          have hym := hy _ (.inl (.inl (k5 _ _ (by simpa using nwC) hwa)))
          obtain ⟨c, hc, rfl⟩ : ∃ c, e.ws[m]? = some c ∧ V.str c = y := by
            rw [List.getElem?_map] at hym
            cases hcm : e.ws[m]? with
            | none => rw [hcm] at hym; cases hym
            | some c => rw [hcm] at hym; exact ⟨c, rfl, Option.some.inj hym⟩
          refine ⟨rfl, yes_on ⟨_, rfl, _, rfl, (by show 2 ≤ sizeLine; decide), fun p np => ?_⟩⟩
          have npC : p ≠ C := fun z => by rw [z, hC5] at np; cases np
          have kp : Kp [] H6 (upd H6 p (.tup [.str c, .int (i : Nat)])) := Kp.laid np
          have kC : Kp [C] (upd H6 p (.tup [.str c, .int (i : Nat)])) (upd (upd H6 p (.tup [.str c, .int (i : Nat)])) C (.lst (ps.map V.ref ++ [.ref p]))) := Kp.put (by simp)
          refine ⟨_, kp _ _ (by simp) hC5, by rw [List.length_map]; omega, (k5.trans (kp.mono (by simp))).trans kC, ps ++ [p], by rw [upd_same, List.map_append]; rfl, by rw [List.length_append, hpl]; rfl, fun n p' c' hn hcn => ?_⟩
          rcases Nat.lt_or_ge n ps.length with h | h
          · rw [List.getElem?_append_left h] at hn
            obtain ⟨h1, h2⟩ := hps n p' c' hn hcn
            exact ⟨kC _ _ (by simpa using h2) (kp _ _ (by simp) h1), h2⟩
          · rw [List.getElem?_append_right h] at hn
            have hn0 : n - ps.length = 0 := by
              cases hq : n - ps.length with
              | zero => rfl
              | succ n => rw [hq] at hn; cases hn
            rw [hn0] at hn
            obtain rfl : p = p' := Option.some.inj hn
            have : n = m := by omega
            rw [this, hc] at hcn
            obtain rfl := Option.some.inj hcn
            exact ⟨kC _ _ (by simpa using npC) upd_same, npC⟩
        case refine_1 =>
          rintro H5 ⟨k5, ps, hC5, hpl, hps⟩
          refine ⟨⟨_, .inl (.inl (k5 _ _ (by simpa using nwC) hwa)), by rw [List.length_map]; exact Nat.le_refl _⟩, ?_⟩
          have k45 : Kp [] H4 H5 := Kp.drop k5 nC
          have paired : ∀ (ps : List Addr) (ws : List Str), ps.length = ws.length → (∀ (n : Nat) (p : Addr) (c : Str), ps[n]? = some p → ws[n]? = some c → H5 p = some (.tup [.str c, .int (i : Nat)])) → Paired (fun p (kv : L2.Key × V) => SqT K H5 p [kV kv.1, kv.2]) ps (ws.map fun c => ((Sum.inr c : L2.Key), V.int (i : Nat))) := by
            intro ps
            induction ps with
            | nil =>
              intro ws hl _
              cases ws with
              | nil => exact .nil
              | cons _ _ => cases hl
            | cons p ps ih =>
              intro ws hl hall
              cases ws with
              | nil => cases hl
              | cons c ws => exact .cons (.inl (.inl (hall 0 p c rfl rfl))) (ih ws (Nat.succ.inj hl) fun n p' c' h1 h2 => hall (n + 1) p' c' h1 h2)
          refine ⟨C, ps, _, rfl, .inl (.inl hC5), paired ps e.ws hpl fun n p c h1 h2 => (hps n p c h1 h2).1, fun M nM => ?_⟩
          have hm : mergeK [] (e.ws.map fun c => ((Sum.inr c : L2.Key), V.int (i : Nat))) = e.ws.map fun c => ((Sum.inr c : L2.Key), V.int (i : Nat)) := by
            rw [mergeK_nodup _ _ ?_]
            · rfl
            · rw [List.map_map]
              exact nodup_mapi (fun a b h => Sum.inr.inj h) hw3.1
          rw [hm]
          have kM : Kp [] H5 (upd H5 M (.dK (e.ws.map fun c => ((Sum.inr c : L2.Key), V.int (i : Nat))))) := Kp.laid nM
          have e5 := k45 _ _ (by simp) e1
          have nLM : LD ≠ M := fun z => by rw [z, nM] at e5; cases e5
          refine ⟨LD, M, kv, _, rfl, rfl, nLM, kM _ _ (by simp) e5, upd_same, by rw [List.length_map]; omega, ?_⟩
          have kL : Kp [LD] (upd H5 M (.dK (e.ws.map fun c => ((Sum.inr c : L2.Key), V.int (i : Nat))))) (upd (upd H5 M (.dK (e.ws.map fun c => ((Sum.inr c : L2.Key), V.int (i : Nat))))) LD (.dK (mergeK kv (e.ws.map fun c => ((Sum.inr c : L2.Key), V.int (i : Nat)))))) := Kp.put (by simp)
          have k46 := k45.trans kM
          refine ⟨_, _, rfl, (k4.trans (k46.mono (by simp))).trans (kL.mono (by simp)), ⟨_, upd_same, ?_, fun c => ?_⟩, ds4, ?_, len4, ne4, fun m d hm => ((all4 m d hm).keep k46).off kL (ne4 d (List.mem_of_getElem? hm)).1⟩
          · have := length_mergeK (e.ws.map fun c => ((Sum.inr c : L2.Key), V.int (i : Nat))) kv
            rw [List.length_map] at this
            omega
          · rw [valV_merge (V.int (i : Nat)) _ _ _ (fun p hp => by obtain ⟨c', _, rfl⟩ := List.mem_map.mp hp; rfl), lastIx_succ, hwr c, decide_eq_true (show e.id ∉ gone from hgn), Bool.true_and]
            have hmem : ((e.ws.map fun c => ((Sum.inr c : L2.Key), V.int (i : Nat))).any fun p => decide (p.1 = Sum.inr c)) = decide (c ∈ e.ws) := by
              rw [Bool.eq_iff_iff, List.any_eq_true, decide_eq_true_iff]
              constructor
              · rintro ⟨p, hp, hd⟩
                obtain ⟨c', h1, rfl⟩ := List.mem_map.mp hp
                rw [← Sum.inr.inj (of_decide_eq_true hd)]
                exact h1
              · intro h
                exact ⟨_, List.mem_map.mpr ⟨c, h, rfl⟩, decide_eq_true rfl⟩
            rw [hmem]
            by_cases hc : c ∈ e.ws
            · rw [decide_eq_true hc, if_pos rfl, if_pos rfl]
              rfl
            · rw [decide_eq_false hc, if_neg Bool.false_ne_true, if_neg Bool.false_ne_true]
              exact q1 c
          · exact kL _ _ (by simpa using nLF.symm) (k46 _ _ (by simp) hFP4)
  · rintro σ H1 ⟨c4, c5, rfl, k1, snap, ds, hds, dl, dne, dall⟩
    refine ⟨_, rfl, _, rfl, (by show 1 ≤ sizeLine; decide), fun L2_ nL => ?_⟩
    have kL : Kp [] H1 (upd H1 L2_ (.lst [.ref LD])) := Kp.laid nL
    refine ⟨FP, L2_, _, _, rfl, rfl, kL _ _ (by simp) hds, upd_same, by rw [List.length_map]; show ds.length + 1 ≤ sizeLine; omega, fun p np => ?_⟩
    have kp := Kp.laid (ex := []) (o := .lst (ds.map V.ref ++ [.ref LD])) np
    refine q p _ ((back k1).trans (kL.trans kp)) ⟨ds ++ [LD], by rw [upd_same, List.map_append]; rfl, by rw [List.length_append, dl, hel, ← hl]; rfl, fun m d hm => ?_⟩
    rcases Nat.lt_or_ge m ds.length with h | h
    · rw [List.getElem?_append_left h] at hm
      exact ((dall m d hm).keep kL).keep kp
    · rw [List.getElem?_append_right h] at hm
      have hm0 : m - ds.length = 0 := by
        cases hq : m - ds.length with
        | zero => rfl
        | succ n => rw [hq] at hm; cases hm
      rw [hm0] at hm
      obtain rfl : LD = d := Option.some.inj hm
      rw [show m = xs.length by omega]
      obtain ⟨kv, e1, l1, q1⟩ := (snap.keep kL).keep kp
      exact ⟨kv, e1, by omega, q1⟩
end
end NV
/-! T5 -/
set_option Elab.async false
set_option linter.all false
set_option maxRecDepth 100000
set_option maxHeartbeats 600000
/-! the positions met, by a closed set; the target's position by a walk -/
namespace NV
open PySem PySem.Spec PyProof.Rows L2
theorem nodup_below {n : Nat} {l : List Nat} (nd : l.Nodup) (h : ∀ x ∈ l, x < n) : l.length ≤ n := by
  have p : l.Perm ((List.range n).filter fun x => decide (x ∈ l)) := by
    rw [List.perm_ext_iff_of_nodup nd (List.nodup_range.filter _)]
    intro x
    rw [List.mem_filter, List.mem_range, decide_eq_true_iff]
    exact ⟨fun z => ⟨h x z, z⟩, fun z => z.2⟩
  rw [p.length_eq]
  have := List.length_filter_le (fun x => decide (x ∈ l)) (List.range n)
  rwa [List.length_range] at this
theorem falls_nodup {l : List Nat} (h : l.Pairwise (· > ·)) : l.Nodup := by
  rw [List.nodup_iff_pairwise_ne]
  exact h.imp fun {a b} z e => by omega
theorem met_closed {es : List Ent} {q : Ask} {ms : List Nat} (nd : ms.Nodup) (hr : ∀ j ∈ ms, Reach es q j) (h0 : ∀ p, lastIx es q.2.2 q.2.1 = some p → p ∈ ms) (h1 : ∀ j ∈ ms, ∀ e, es[j]? = some e → ∀ c ∈ e.rs, ∀ p, lastIx es j c = some p → p ∈ ms) :
    ms.Perm (metL es q q.2.2) := by
  rw [List.perm_ext_iff_of_nodup nd (falls_nodup (met_falls (Nat.le_refl _)))]
  intro p
  rw [met_iff]
  constructor
  · exact hr p
  · intro R
    induction R with
    | base h => exact h0 _ h
    | step _ he hc h ih => exact h1 _ ih _ he _ hc _ h
theorem met_sorted {es : List Ent} {q : Ask} {ms : List Nat} {ys : List Int} (hp : ms.Perm (metL es q q.2.2)) (hy : ys.Perm (ms.map Int.ofNat)) (ha : ys.Pairwise (· ≤ ·)) : ys = (metL es q q.2.2).reverse.map Int.ofNat := by
  refine List.Perm.eq_of_pairwise (le := (· ≤ ·)) (fun a b _ _ h1 h2 => by omega) ha ?_ ?_
  · rw [List.pairwise_map, List.pairwise_reverse]
    exact (met_falls (Nat.le_refl _)).imp fun {a b} z => by
      show (b : Int) ≤ (a : Int)
      omega
  · exact hy.trans ((hp.trans (List.reverse_perm _).symm).map _)
/-- the positions of an id among the first n -/
def posL (es : List Ent) (z : Str) : Nat → List Nat
  | 0 => []
  | n + 1 => if (es.map Ent.id)[n]? = some z then posL es z n ++ [n] else posL es z n
theorem posL_len (es : List Ent) (z : Str) : ∀ n, (posL es z n).length ≤ n
  | 0 => Nat.le_refl _
  | n + 1 => by
    have := posL_len es z n
    unfold posL
    split
    · rw [List.length_append, List.length_singleton]; omega
    · omega
theorem posL_no {es : List Ent} {z : Str} : ∀ {n : Nat}, (∀ j e, j < n → es[j]? = some e → e.id ≠ z) → posL es z n = []
  | 0, _ => rfl
  | n + 1, h => by
    unfold posL
    rw [if_neg, posL_no fun j e hj => h j e (by omega)]
    rw [List.getElem?_map]
    intro he
    cases hx : es[n]? with
    | none => rw [hx] at he; cases he
    | some e =>
      rw [hx] at he
      exact h n e (Nat.lt_succ_self _) hx (Option.some.inj he)
theorem posL_first {es : List Ent} {z : Str} {k : Nat} {e : Ent} (he : es[k]? = some e) (hz : e.id = z) (h : ∀ j e, j < k → es[j]? = some e → e.id ≠ z) : ∀ {n : Nat}, k < n → (posL es z n)[0]? = some k
  | n + 1, hn => by
    unfold posL
    rcases Nat.lt_or_ge k n with lt | ge
    · have ih := posL_first he hz h lt
      split
      · have hl := (List.getElem?_eq_some_iff.mp ih).1
        rw [List.getElem?_append_left hl]
        exact ih
      · exact ih
    · obtain rfl : k = n := by omega
      rw [posL_no h, if_pos]
      · rfl
      · rw [List.getElem?_map, he, ← hz]
        rfl
end NV
/-! U2 -/
set_option Elab.async false
set_option linter.all false
set_option maxRecDepth 100000
set_option maxHeartbeats 1000000
/-! the law's _law_met: the positions of the writes that a target depends on -/
namespace NV
open PySem PySem.Spec PyProof.Rows L2
open C8 (pss_cut pe_gc)
abbrev sLawMet : Stmt := topS 52
theorem scLawMet : FnScope ["entries", "goal", "gone", "start", "waiting", "before", "met", "at", "entry", "cell"] ["entries", "goal", "gone"] (defScope sLawMet) := ⟨rfl, rfl, rfl, by decide +kernel, rfl, by decide +kernel, by decide +kernel⟩
def posV (l : List Nat) : List V := l.map fun j => V.int (j : Nat)
theorem posV_app (a b : List Nat) : posV (a ++ b) = posV a ++ posV b := List.map_append
theorem posV_len (a : List Nat) : (posV a).length = a.length := List.length_map ..
/-- the item met at a position is not retracted -/
theorem wr_live {es : List Ent} {gone : List Str} {i : Nat} {c : Str} (h : wr (es.map (bl gone)) i c = true) : ∃ e, es[i]? = some e ∧ (es.map (bl gone))[i]? = some e := by
  unfold wr at h
  rw [List.getElem?_map] at h
  cases he : es[i]? with
  | none => rw [he] at h; cases h
  | some e =>
    refine ⟨e, rfl, ?_⟩
    rw [List.getElem?_map, he]
    rw [he] at h
    have h : decide (c ∈ (bl gone e).ws) = true := h
    by_cases hg : e.id ∈ gone
    · have hb : bl gone e = .wr e.id [] [] none := if_pos hg
      rw [hb] at h
      cases h
    · exact congrArg some (if_neg hg)
theorem reach_wr {es : List Ent} {q : Ask} {p : Nat} (r : Reach es q p) : ∃ c, wr es p c = true := by
  cases r with
  | base h => exact ⟨_, (lastIx_lt h).2⟩
  | step _ _ _ h => exact ⟨_, (lastIx_lt h).2⟩
/-- the dict of the positions met -/
def metKV (ms : List Nat) : List (L2.Key × V) := ms.map fun j => ((Sum.inl (j : Nat) : L2.Key), V.bl true)
theorem metKV_get (ms : List Nat) (j : Nat) : (valV (metKV ms) (Sum.inl (j : Nat) : L2.Key)).isSome = decide (j ∈ ms) := by
  rw [← valV_any]
  unfold metKV
  rw [List.any_map, Bool.eq_iff_iff, List.any_eq_true, decide_eq_true_iff]
  constructor
  · rintro ⟨x, hx, h⟩
    have h := Sum.inl.inj (of_decide_eq_true h)
    obtain rfl : x = j := Int.ofNat.inj h
    exact hx
  · intro h
    exact ⟨j, h, decide_eq_true rfl⟩
theorem metKV_put {ms : List Nat} {j : Nat} (h : j ∉ ms) : putK (metKV ms) (Sum.inl (j : Nat) : L2.Key) (.bl true) = metKV (ms ++ [j]) := by
  rw [putK_new]
  · unfold metKV
    rw [List.map_append]
    rfl
  · have := metKV_get ms j
    rw [decide_eq_false h] at this
    cases hv : valV (metKV ms) (Sum.inl (j : Nat) : L2.Key) with
    | none => rfl
    | some v => rw [hv] at this; cases this
def spMet : Sp := fun vs H Q _ => ∃ (v : V) (t g : Addr) (es : List Ent) (gone : List Str) (z c : Str) (k : Nat) (ex : List Addr), vs = [v, .ref t, .ref g] ∧ Rp ex H (logD es) v ∧ (∀ e ∈ es, e.Ok) ∧ es.length ≤ 60 ∧ H t = some (.tup [.str z, .str c]) ∧ PosOf es z k ∧ H g = some (.lst (gone.map V.str)) ∧ gone.length ≤ 1000 ∧ Live ex H ∧
  ∀ p H', Kp [] H H' → H p = none → H' p = some (.lst (posV (metL (es.map (bl gone)) (z, c, k) k).reverse)) → Q (.ref p) H'
theorem if_t {A B : Prop} (h : A) : if true = true then A else B := by rw [if_pos rfl]; exact h
theorem if_f {A B : Prop} (h : B) : if false = true then A else B := by rw [if_neg Bool.false_ne_true]; exact h
/-- the state of the walk over those that wait -/
structure MetW (es : List Ent) (q : Ask) (ms : List Nat) (ws : List (Option Nat)) : Prop where
  nd : ms.Nodup
  hm : ∀ j ∈ ms, Reach es q j
  hw : ∀ j, some j ∈ ws → Reach es q j
  base : ∀ p, lastIx es q.2.2 q.2.1 = some p → p ∈ ms ∨ some p ∈ ws
  step : ∀ j ∈ ms, ∀ e, es[j]? = some e → ∀ c ∈ e.rs, ∀ p, lastIx es j c = some p → p ∈ ms ∨ some p ∈ ws
theorem mem_last {l : List (Option Nat)} {y o : Option Nat} (h : l[l.length - 1]? = some y) (hm : o ∈ l) : o ∈ l.dropLast ∨ o = y := by
  cases hl : l.reverse with
  | nil =>
    obtain rfl := List.reverse_eq_nil_iff.mp hl
    cases hm
  | cons a r =>
    obtain rfl : l = r.reverse ++ [a] := by rw [← List.reverse_reverse l, hl, List.reverse_cons]
    rw [List.dropLast_concat]
    rw [List.length_append, List.length_singleton, Nat.add_sub_cancel, List.getElem?_append_right (Nat.le_refl _), Nat.sub_self] at h
    rcases List.mem_append.mp hm with x | x
    · exact .inl x
    · rw [List.mem_singleton.mp x]
      exact .inr (Option.some.inj h)
theorem MetW.drop {es : List Ent} {q : Ask} {ms : List Nat} {ws : List (Option Nat)} {y : Option Nat} (m : MetW es q ms ws) (h : ws[ws.length - 1]? = some y) (hy : ∀ j, y = some j → j ∈ ms) : MetW es q ms ws.dropLast where
  nd := m.nd
  hm := m.hm
  hw := fun j hj => m.hw j (List.dropLast_subset _ hj)
  base := fun p hp => (m.base p hp).elim .inl fun x => (mem_last h x).elim .inr fun e => .inl (hy p e.symm)
  step := fun j hj e he c hc p hp => (m.step j hj e he c hc p hp).elim .inl fun x => (mem_last h x).elim .inr fun e => .inl (hy p e.symm)
theorem MetW.meet {es : List Ent} {q : Ask} {ms : List Nat} {ws : List (Option Nat)} {j : Nat} {e : Ent} (m : MetW es q ms ws) (h : ws[ws.length - 1]? = some (some j)) (hj : j ∉ ms) (he : es[j]? = some e) : MetW es q (ms ++ [j]) (ws.dropLast ++ e.rs.map (lastIx es j)) := by
  have R : Reach es q j := m.hw j (List.mem_of_getElem? h)
  refine ⟨?_, fun i hi => ?_, fun i hi => ?_, fun p hp => ?_, fun i hi e' he' c hc p hp => ?_⟩
  · rw [List.nodup_append]
    exact ⟨m.nd, by simp, fun a ha b hb e => hj (by rw [← List.mem_singleton.mp hb, ← e]; exact ha)⟩
  · rcases List.mem_append.mp hi with x | x
    · exact m.hm i x
    · rw [List.mem_singleton.mp x]; exact R
  · rcases List.mem_append.mp hi with x | x
    · exact m.hw i (List.dropLast_subset _ x)
    · obtain ⟨c, hc, e⟩ := List.mem_map.mp x
      exact .step R he hc e
  · rcases m.base p hp with x | x
    · exact .inl (List.mem_append_left _ x)
    · rcases mem_last h x with y | y
      · exact .inr (List.mem_append_left _ y)
      · exact .inl (List.mem_append_right _ (by rw [Option.some.inj y]; simp))
  · rcases List.mem_append.mp hi with x | x
    · rcases m.step i x e' he' c hc p hp with x | x
      · exact .inl (List.mem_append_left _ x)
      · rcases mem_last h x with y | y
        · exact .inr (List.mem_append_left _ y)
        · exact .inl (List.mem_append_right _ (by rw [Option.some.inj y]; simp))
    · obtain rfl := List.mem_singleton.mp x
      rw [he] at he'
      obtain rfl := Option.some.inj he'
      exact .inr (List.mem_append_right _ (List.mem_map.mpr ⟨c, hc, hp⟩))
theorem MetW.end_ {es : List Ent} {q : Ask} {ms : List Nat} (m : MetW es q ms []) : ms.Perm (metL es q q.2.2) :=
  met_closed m.nd m.hm (fun p hp => (m.base p hp).resolve_right (by simp)) fun j hj e he c hc p hp => (m.step j hj e he c hc p hp).resolve_right (by simp)
theorem pos_le {es : List Ent} {z : Str} {k : Nat} (h : PosOf es z k) : k ≤ es.length := by
  rcases h with ⟨_, rfl⟩ | ⟨_, ⟨e, he, _⟩, _⟩
  · exact Nat.le_refl _
  · exact Nat.le_of_lt (List.getElem?_eq_some_iff.mp he).1
theorem pos_first {es : List Ent} {z : Str} {k : Nat} (ok : ∀ e ∈ es, e.Ok) (h : PosOf es z k) : (posL es z es.length ++ [es.length])[0]? = some k := by
  rcases h with ⟨rfl, rfl⟩ | ⟨_, ⟨e, he, hz⟩, hf⟩
  · rw [posL_no fun j e _ he => id_ne (ok e (List.mem_of_getElem? he))]
    rfl
  · have h := posL_first he hz hf (List.getElem?_eq_some_iff.mp he).1
    rw [List.getElem?_append_left (List.getElem?_eq_some_iff.mp h).1]
    exact h
/-- the first position of the target's reader -/
theorem st_start {K : PySem.W.Frag} {σ : L2.St} {H : Hp} {t : Addr} {v : V} {ex : List Addr} {es : List Ent} {z c : Str} {k i j : Nat} {Q : VK} (s0 : σ[0]? = some (some v)) (rv : Rp ex H (logD es) v) (ok : ∀ e ∈ es, e.Ok) (h60 : es.length ≤ 60) (ht : H t = some (.tup [.str z, .str c])) (hpos : PosOf es z k)
    (w0 : ∀ x y, wipe (((wipe σ [i, j]).set i x).set j y) [i, j] = wipe σ [i, j]) (w1 : ∀ x y, (((wipe σ [i, j]).set i x).set j y)[1]? = some (some (.ref t))) (wi : ∀ x y, (((wipe σ [i, j]).set i x).set j y)[i]? = some x) (wj : ∀ x y, (((wipe σ [i, j]).set i x).set j y)[j]? = some y)
    (q : ∀ H', Kp [] H H' → Q (.int (k : Nat)) H') :
    tOp (rIxL K) (tOp rCat (tLc (iEnumT K (tCons (tVar 0) tNil)) (gTup K 2 (gCons (gName i) (gCons (gName j) gNil))) (tTest (tOp rEq (tOp (rIxT K) (tVar j) (tC (V.int 1))) (tOp (rIxT K) (tVar 1) (tC (V.int 0))))) (tVar i) [i, j])
      (tLst (tCons (tCB (fun xs H Q => ∃ p ys, xs = [V.ref p] ∧ (SqL K H p ys ∨ SqT K H p ys) ∧ Q (V.int ys.length) H) (tCons (tVar 0) tNil)) tNil))) (tC (V.int 0)) σ H Q := by
  have line : (100000 : Nat) < sizeLine := by decide
  obtain ⟨a, xs, rfl, na, ha, hx⟩ := rv
  have hl : es.length = xs.length := by
    have := hx.length
    rwa [List.length_map] at this
  refine ⟨_, s0, a, xs, rfl, .inl (.inl ha), fun C nC => ?_⟩
  have naC : a ≠ C := fun y => by rw [y, nC] at ha; cases ha
  have ntC : t ≠ C := fun y => by rw [y, nC] at ht; cases ht
  have fin : ∀ (L : Addr) (H' : Hp), Kp [] H H' → H' L = some (.lst (posV (posL es z es.length))) → tLst (tCons (tCB (fun xs H Q => ∃ p ys, xs = [V.ref p] ∧ (SqL K H p ys ∨ SqT K H p ys) ∧ Q (V.int ys.length) H) (tCons (tVar 0) tNil)) tNil) σ H' fun y H2 => rCat (.ref L) y H2 fun x H3 => tC (V.int 0) σ H3 fun y H4 => rIxL K x y H4 Q := by
    intro L H' k1 hL
    refine ⟨_, s0, a, xs, rfl, .inr (.inl (.inl (k1 _ _ (by simp) ha))), (by show 1 ≤ sizeLine; decide), fun L2 nL2 => ?_⟩
    have kL : Kp [] H' (upd H' L2 (.lst [.int (xs.length : Nat)])) := Kp.laid nL2
    refine ⟨L, L2, _, _, rfl, rfl, kL _ _ (by simp) hL, upd_same, ?_, fun L3 nL3 => ?_⟩
    · have := posL_len es z es.length
      rw [posV_len]
      show _ + 1 ≤ sizeLine
      omega
    have kL3 := Kp.laid (ex := []) (o := .lst (posV (posL es z es.length) ++ [.int (xs.length : Nat)])) nL3
    refine c_of (ix_lst (j := 0) upd_same ?_ rfl (q _ (k1.trans (kL.trans kL3))))
    have : posV (posL es z es.length) ++ [.int (xs.length : Nat)] = posV (posL es z es.length ++ [es.length]) := by rw [posV_app, hl]; rfl
    rw [this]
    unfold posV
    rw [List.getElem?_map, pos_first ok hpos]
    rfl
  refine lc_inv es.length (fun n H' => Kp [C] (upd H C (.lst [])) H' ∧ H' C = some (.lst (posV (posL es z n)))) ⟨Kp.refl, upd_same⟩ (fun H' ⟨k1, hC⟩ => ⟨⟨xs, .inl (.inl (k1 _ _ (by simpa using naC) (by rw [upd_ne naC]; exact ha))), hl.symm⟩, fin C H' (Kp.drop (((Kp.laid (ex := []) nC).mono (by simp)).trans k1) nC) hC⟩) (fun n H' hn ⟨k1, _⟩ => ⟨xs, .inl (.inl (k1 _ _ (by simpa using naC) (by rw [upd_ne naC]; exact ha))), by omega⟩) ?_
  rintro n H' x H2 hn ⟨k1, hC⟩ ⟨T, y, nT, rfl, rfl, hy⟩
  have haT : H' a = some (.tup xs) := k1 _ _ (by simpa using naC) (by rw [upd_ne naC]; exact ha)
  have htT : H' t = some (.tup [.str z, .str c]) := k1 _ _ (by simpa using ntC) (by rw [upd_ne ntC]; exact ht)
  have hy := hy xs (.inl (.inl haT))
  obtain ⟨e, he⟩ : ∃ e, es[n]? = some e := ⟨_, List.getElem?_eq_getElem hn⟩
  obtain ⟨x', hx', rx⟩ := RpAll.at hx (show (es.map Ent.data)[n]? = some e.data by rw [List.getElem?_map, he]; rfl)
  rw [hy] at hx'
  obtain rfl := Option.some.inj hx'
  have kT : Kp [] H' (upd H' T (.tup [.int (n : Nat), y])) := Kp.laid nT
  have hT : (upd H' T (.tup [.int (n : Nat), y])) T = some (.tup [.int (n : Nat), y]) := upd_same
  have k2 : Kp [C] (upd H C (.lst [])) (upd H' T (.tup [.int (n : Nat), y])) := k1.trans (kT.mono (by simp))
  have hCT := kT _ _ (by simp) hC
  have htT := kT _ _ (by simp) htT
  generalize upd H' T (.tup [.int (n : Nat), y]) = H3 at kT hT k2 hCT htT ⊢
  have kHC : Kp [C] H H3 := ((Kp.laid (ex := []) nC).mono (by simp)).trans k2
  have kH : Kp [] H H3 := Kp.drop kHC nC
  have re := Rp.keep (kH.mono (by simp)) _ _ rx
  obtain ⟨ds, ed, h1, _⟩ := ent_reads e
  refine ⟨T, _, rfl, .inl (.inl hT), rfl, _, _, rfl, _, _, rfl, rfl, w0 _ _, ?_⟩
  refine ⟨_, wj _ _, c_of (ent_ix re ed h1 rfl fun u ru => ?_)⟩
  obtain rfl : u = .str e.id := ru
  refine ⟨_, w1 _ _, c_of ⟨t, _, _, _, rfl, rfl, .inl (.inl htT), rfl, ?_⟩⟩
  refine ⟨rfl, ?_⟩
  have hd : decide (V.str e.id = V.str z) = decide (e.id = z) := by by_cases h : e.id = z <;> simp [h]
  rw [hd]
  have hs : posL es z (n + 1) = if e.id = z then posL es z n ++ [n] else posL es z n := by
    show (if (es.map Ent.id)[n]? = some z then posL es z n ++ [n] else posL es z n) = _
    rw [List.getElem?_map, he]
    show (if some e.id = some z then _ else _) = _
    by_cases h : e.id = z
    · rw [if_pos h, if_pos (by rw [h])]
    · rw [if_neg h, if_neg (fun y => h (Option.some.inj y))]
  refine ⟨_, rfl, ?_⟩
  by_cases h : e.id = z
  · rw [if_pos h] at hs
    rw [if_pos (decide_eq_true h)]
    refine ⟨_, wi _ _, _, hCT, ?_, k2.trans (Kp.put (by simp)), ?_⟩
    · have := posL_len es z n
      rw [posV_len]
      omega
    · rw [upd_same, hs, posV_app]
      rfl
  · rw [if_neg h] at hs
    rw [if_neg (by rw [decide_eq_false h]; exact Bool.false_ne_true), hs]
    exact ⟨k2, hCT⟩
section
variable {P : Program} {w : World} {K : PySem.W.Frag} {mg : Str → Option Value} {base : Heap}
theorem ok_met (DLawMet : Fn K mg "_law_met" sLawMet ["entries", "goal", "gone"]) (DLawSnapshots : Fn K mg "_law_snapshots" sLawSnapshots ["entries", "gone"]) (b_enumerate : mg "enumerate" = none) (b_dict : mg "dict" = none) (b_len : mg "len" = none) (b_sorted : mg "sorted" = none) : FnOk P w K mg base CX0 2 DLawMet.f DLawMet.fd ["entries", "goal", "gone"] spMet := by
  refine DLawMet.F.ok scLawMet (fun vs H Q E h => ?_) (fun cdv A outer s H vs Q E hr h => ?_)
  · obtain ⟨v, t, g, es, gone, z, c, k, ex, rfl, _⟩ := h
    rfl
  obtain ⟨v, t, g, es, gone, z, c, k, ex, rfl, rv, ok, h60, ht, hpos, hg, hgl, lv, q⟩ := h
  have GLawSnapshots := ok_snaps (P := P) (w := w) (base := base) DLawSnapshots b_enumerate b_dict
  have line : (100000 : Nat) < sizeLine := by decide
  have hu := hu_of hr
  refine ⟨_, pss_cons (ps_asg (pe_tup (pa_cons (pe_fn DLawSnapshots GLawSnapshots hr (pa_cons (pv 0) (pa_cons (pv 2) pa_nil))) (pa_cons pe_dnewK pa_nil))) (pg_tupE K (by rfl) (pgs_cons (pg_name (i := 5) scLawMet.nd rfl (.inr rfl)) (pgs_cons (pg_name (i := 6) scLawMet.nd rfl (.inl rfl)) pgs_nil))))
      (pss_cons (ps_set (i := 3) scLawMet.nd rfl (.inl rfl) (pe_ix (ixlE K) (pe_op op_cat (pe_lc (own := [("at", 7), ("entry", 8)]) (g := gTup K 2 (gCons (gName 7) (gCons (gName 8) gNil))) (by rfl) scLawMet.nd (pi_enumT K (by rfl) b_enumerate (pa_cons (pv 0) pa_nil)) (blkOk_by (N := ["entries", "goal", "gone", "start", "waiting", "before", "met", "at", "entry", "cell"]) (sc := defScope sLawMet) (by decide +kernel)) (fun _ _ _ _ _ => (pg_tupE K (by rfl) (pgs_cons (pg_name (i := 7) scLawMet.nd rfl (.inl rfl)) (pgs_cons (pg_name (i := 8) scLawMet.nd rfl (.inl rfl)) pgs_nil)))) (fun _ _ _ _ _ => (pts_one (pt_cmpR op_eq (pe_ix (ixtE K) (pv 8) pe_int (fun _ _ => rfl)) (pe_ix (ixtE K) (pv 1) pe_int (fun _ _ => rfl)) (nomark _)))) (fun _ _ _ _ _ => (pv 7))) (pe_lst (pa_cons (pe_callB (lenE K) (by rfl) b_len (by decide +kernel) (pa_cons (pv 0) pa_nil)) pa_nil))) pe_int (fun _ _ => rfl)))
      (pss_cons (ps_set (i := 4) scLawMet.nd rfl (.inl rfl) (pe_lst (pa_cons (pe_dget1 hu (pe_ix (ixlE K) (pv 5) (pv 3) (fun _ _ => rfl)) (pe_ix (ixtE K) (pv 1) pe_int (fun _ _ => rfl)) ⟨rfl, rfl, rfl, rfl⟩) pa_nil)))
      (pss_cons (ps_while PassesOwn.never (pt_cmpR (op_neNil K hr.units) (pv 4) (pe_lst pa_nil) (nomark _))
      (pss_cons (ps_set (i := 7) scLawMet.nd rfl (.inr rfl) (pe_bm0 PySem.F.plainAttrs_list PySem.F.slot_list_pop PySem.F.type_list_pop mt_pop (pv 4)))
      (pss_one (ps_if (PW.pt (pw_and (pt_cmpR op_notN (pv 7) pe_non (nomark _)) (pw_and1 (pt_cmp (pc_dnotin hu (pv 7) (pv 6))))))
      (pss_cons (ps_dput hu (pv 6) (pv 7) pe_bl rfl)
      (pss_one (ps_expr (bmE K PySem.F.plainAttrs_list PySem.F.slot_list_extend PySem.F.type_list_extend mt_extend (pv 4) (pa_cons (pe_lc (own := [("cell", 9)]) (g := gName 9) (tt := tYes) (by rfl) scLawMet.nd (piTupE K (pe_ix (ixtE K) (pe_ix (ixtE K) (pv 0) (pv 7) (fun _ _ => rfl)) pe_int (fun _ _ => rfl))) (blkOk_by (N := ["entries", "goal", "gone", "start", "waiting", "before", "met", "at", "entry", "cell"]) (sc := defScope sLawMet) (by decide +kernel)) (fun _ _ _ _ _ => (pg_name (i := 9) scLawMet.nd rfl (.inl rfl))) (fun _ _ _ _ _ => pts_nil) (fun _ _ _ _ _ => (pe_dget1 hu (pe_ix (ixlE K) (pv 5) (pv 7) (fun _ _ => rfl)) (pv 9) ⟨rfl, rfl, rfl, rfl⟩))) pa_nil)))))
      pss_nil))))
      (pss_one (ps_ret (pe_callB (call_sortedDI (by rfl)) (by rfl) b_sorted (by decide +kernel) (pa_cons (pv 6) pa_nil))))))), ?_⟩
  refine ⟨_, rfl, _, rfl, v, g, es, gone, ex, rfl, rv, ok, by omega, hg, hgl, lv, fun B H1 k1 snaps => ?_⟩
  intro MD nMD
  refine ⟨(by show 2 ≤ sizeLine; decide), fun T nT => ⟨T, [.ref B, .ref MD], rfl, .inl (.inl upd_same), rfl, _, _, rfl, _, _, rfl, rfl, ?_⟩⟩
  have kM : Kp [] H1 (upd H1 MD (.dK [])) := Kp.laid nMD
  have kT : Kp [] (upd H1 MD (.dK [])) (upd (upd H1 MD (.dK [])) T (.tup [.ref B, .ref MD])) := Kp.laid nT
  have hMD : (upd (upd H1 MD (.dK [])) T (.tup [.ref B, .ref MD])) MD = some (.dK []) := kT _ _ (by simp) upd_same
  have nMD0 : H MD = none := kp_none k1 nMD
  have k2 := k1.trans (kM.trans kT)
  have snaps2 := (snaps.keep kM).keep kT
  generalize upd (upd H1 MD (.dK [])) T (.tup [.ref B, .ref MD]) = H2 at kT hMD k2 snaps2 ⊢
  have rv2 := Rp.keep (k2.mono (by simp)) _ _ rv
  have ht2 := k2 _ _ (by simp) ht
  refine st_start (K := K) (i := 7) (j := 8) (z := z) (c := c) (t := t) rfl rv2 ok h60 ht2 hpos (fun _ _ => rfl) (fun _ _ => rfl) (fun _ _ => rfl) (fun _ _ => rfl) fun H3 k3 => ?_
  have snaps3 := snaps2.keep k3
  have ht3 := k3 _ _ (by simp) ht2
  have kle := pos_le hpos
  have hel : (es.map (bl gone)).length = es.length := List.length_map ..
  obtain ⟨ds, d, hB, hd, snap⟩ := snaps3.ix (i := k) (by rw [hel]; exact kle)
  have hMD3 := k3 _ _ (by simp) hMD
  obtain ⟨isD, dget⟩ := snap.get c
  refine ⟨_, rfl, _, rfl, ix_lst hB hd rfl ⟨d, rfl, isD, _, rfl, c_of ⟨t, _, _, _, rfl, rfl, .inl (.inl ht3), rfl, _, dget, ?_⟩⟩⟩
  rw [natV_get]
  refine ⟨(by show 1 ≤ sizeLine; decide), fun WL nWL => ?_⟩
  have kW : Kp [] H3 (upd H3 WL (.lst [natV (lastIx (es.map (bl gone)) k c)])) := Kp.laid nWL
  have hWL : (upd H3 WL (.lst [natV (lastIx (es.map (bl gone)) k c)])) WL = some (.lst ([lastIx (es.map (bl gone)) k c].map natV)) := upd_same
  have k4 := k2.trans (k3.trans kW)
  have snaps4 := snaps3.keep kW
  have hMD4 := kW _ _ (by simp) hMD3
  have nWM : WL ≠ MD := fun y => by rw [y, hMD3] at nWL; cases nWL
  have nWL0 : H WL = none := kp_none (k2.trans k3) nWL
  generalize upd H3 WL (.lst [natV (lastIx (es.map (bl gone)) k c)]) = H4 at kW hWL k4 snaps4 hMD4 ⊢
  have rv4 := Rp.keep (k4.mono (by simp)) _ _ rv
  have nMD4 : H1 MD = none := nMD
  have nWL1 : H1 WL = none := kp_none ((kM.trans kT).trans k3) nWL
  have kH4 : Kp [] H1 H4 := ((kM.trans kT).trans k3).trans kW
  have back1 : ∀ {H' : Hp}, Kp [WL, MD] H4 H' → Kp [] H1 H' := fun k => Kp.drop (Kp.drop ((kH4.mono (by simp)).trans k) nWL1) nMD4
  have back : ∀ {H' : Hp}, Kp [WL, MD] H4 H' → Kp [] H H' := fun k => k1.trans (back1 k)
  obtain ⟨a, xs, rfl, na, ha, hx⟩ := rv
  have hl : es.length = xs.length := by
    have := hx.length
    rwa [List.length_map] at this
  generalize hes : es.map (bl gone) = es' at snaps snaps2 snaps3 snaps4 hel snap hWL q
  have cell : ∀ {ms : List Nat}, (∀ j ∈ ms, Reach es' (z, c, k) j) → ms.Nodup → ms.length ≤ 60 := fun hm nd => by
    have h1 : List.length _ ≤ k := nodup_below nd fun x hx => reach_lt (hm x hx)
    omega
  refine ⟨fun m σ H' => ∃ (c7 : Option V) (ms : List Nat) (ws : List (Option Nat)), σ = [some (.ref a), some (.ref t), some (.ref g), some (.int (k : Nat)), some (.ref WL), some (.ref B), some (.ref MD), c7, none, none] ∧ Kp [WL, MD] H4 H' ∧ H' WL = some (.lst (ws.map natV)) ∧ H' MD = some (.dK (metKV ms)) ∧ MetW es' (z, c, k) ms ws ∧ ws.length ≤ 1 + 3 * ms.length ∧ m = 4 * (60 - ms.length) + ws.length, ⟨_, none, [], _, rfl, Kp.refl, hWL, hMD4, ⟨.nil, nofun, fun j hj => .base (List.mem_singleton.mp hj).symm, fun p hp => .inr (List.mem_singleton.mpr hp.symm), nofun⟩, Nat.le_refl _, rfl⟩, ?_⟩
  rintro m σ H5 ⟨c7, ms, ws, rfl, k5, hW5, hM5, mw, wl, rfl⟩
  have ms60 := cell mw.hm mw.nd
  have h400 : (100000 : Nat) < sizeLine := by decide
  refine ⟨_, rfl, Nat.zero_le _, fun L nL => ?_⟩
  have kL : Kp [] H5 (upd H5 L (.lst [])) := Kp.laid nL
  have k6 := k5.trans (kL.mono (by simp))
  have hW6 := kL _ _ (by simp) hW5
  have hM6 := kL _ _ (by simp) hM5
  refine ⟨WL, L, _, rfl, rfl, .inl (.inl hW6), .inl (.inl upd_same), _, rfl, ?_⟩
  generalize upd H5 L (.lst []) = H6 at kL k6 hW6 hM6 ⊢
  cases hws : ws with
  | nil =>
    subst hws
    rw [if_neg (by simp)]
    refine ⟨_, rfl, MD, metKV ms, ms.map Int.ofNat, rfl, .inl hM6, ?_, by rw [List.length_map]; omega, fun ys p hp ha np => ?_⟩
    · unfold metKV
      rw [List.map_map, List.map_map]
      rfl
    · have e := met_sorted mw.end_ hp ha
      have kp := Kp.laid (ex := []) (o := .lst (ys.map V.int)) np
      refine q p _ ((back k6).trans kp) (kp_none (back k6) np) ?_
      rw [upd_same, e]
      unfold posV
      rw [List.map_map]
      rfl
  | cons w0 wr0 =>
    have hne : ws ≠ [] := by rw [hws]; simp
    have hb : (!(ws.map natV).isEmpty) = true := by rw [hws]; rfl
    rw [← hws, hb, if_pos rfl]
    clear hws
    obtain ⟨o, ho⟩ : ∃ o, ws[ws.length - 1]? = some o := ⟨_, List.getElem?_eq_getElem (by have := List.length_pos_iff.mpr hne; omega)⟩
    refine ⟨fun σ' H' => ∃ m', m' < 4 * (60 - ms.length) + ws.length ∧ ∃ (c7 : Option V) (ms : List Nat) (ws : List (Option Nat)), σ' = [some (.ref a), some (.ref t), some (.ref g), some (.int (k : Nat)), some (.ref WL), some (.ref B), some (.ref MD), c7, none, none] ∧ Kp [WL, MD] H4 H' ∧ H' WL = some (.lst (ws.map natV)) ∧ H' MD = some (.dK (metKV ms)) ∧ MetW es' (z, c, k) ms ws ∧ ws.length ≤ 1 + 3 * ms.length ∧ m' = 4 * (60 - ms.length) + ws.length, fun _ _ h => h, ?_⟩
    have hpos : 0 < ws.length := List.length_pos_iff.mpr hne
    refine ⟨_, rfl, .inl ⟨rfl, _, SqL.of hW6⟩, WL, _, natV o, rfl, rfl, hW6, by rw [List.length_map, List.getElem?_map, ho]; rfl, ?_⟩
    have kP : Kp [WL] H6 (upd H6 WL (.lst ((ws.map natV).dropLast))) := Kp.put (by simp)
    have hW7 : (upd H6 WL (.lst ((ws.map natV).dropLast))) WL = some (.lst (ws.dropLast.map natV)) := by rw [upd_same, List.map_dropLast]
    have nMW : MD ≠ WL := nWM.symm
    have hM7 : (upd H6 WL (.lst ((ws.map natV).dropLast))) MD = some (.dK (metKV ms)) := by rw [upd_ne nMW]; exact hM6
    have k7 := k6.trans (kP.mono (by simp))
    generalize upd H6 WL (.lst ((ws.map natV).dropLast)) = H7 at kP hW7 hM7 k7 ⊢
    have done : ∀ (H' : Hp) (c7 : Option V), Kp [] H7 H' → (∀ j, o = some j → j ∈ ms) → ∃ m', m' < 4 * (60 - ms.length) + ws.length ∧ ∃ (d7 : Option V) (ms : List Nat) (ws : List (Option Nat)), [some (.ref a), some (.ref t), some (.ref g), some (.int (k : Nat)), some (.ref WL), some (.ref B), some (.ref MD), c7, none, none] = [some (.ref a), some (.ref t), some (.ref g), some (.int (k : Nat)), some (.ref WL), some (.ref B), some (.ref MD), d7, none, none] ∧ Kp [WL, MD] H4 H' ∧ H' WL = some (.lst (ws.map natV)) ∧ H' MD = some (.dK (metKV ms)) ∧ MetW es' (z, c, k) ms ws ∧ ws.length ≤ 1 + 3 * ms.length ∧ m' = 4 * (60 - ms.length) + ws.length := fun H' c7 kk hy =>
      ⟨_, by rw [show ws.length = ws.dropLast.length + 1 by rw [List.length_dropLast]; omega]; exact Nat.lt_succ_self _, c7, ms, ws.dropLast, rfl, k7.trans (kk.mono (by simp)), kk _ _ (by simp) hW7, kk _ _ (by simp) hM7, mw.drop ho hy, by rw [List.length_dropLast]; omega, rfl⟩
    refine ⟨_, rfl, rfl, _, rfl, ?_⟩
    cases o with
    | none =>
      refine if_f (if_f ?_)
      exact done _ _ Kp.refl nofun
    | some j =>
      have hnn : (!decide (natV (some j) = V.non)) = true := by rw [decide_eq_false (by show V.int (j : Nat) ≠ V.non; exact nofun)]; rfl
      rw [hnn]
      refine if_t ?_
      refine ⟨_, rfl, _, rfl, MD, _, rfl, DGet.k (k := Sum.inl (j : Nat)) hM7, _, rfl, ?_⟩
      have hsome : (!(valV (metKV ms) (Sum.inl (j : Nat) : L2.Key)).isSome) = decide (j ∉ ms) := by
        rw [metKV_get]
        by_cases h : j ∈ ms <;> simp [h]
      rw [hsome]
      by_cases hj : j ∈ ms
      · rw [decide_eq_false (not_not_intro hj)]
        refine if_f ?_
        exact done _ _ Kp.refl fun i e => by rw [← Option.some.inj e]; exact hj
      rw [decide_eq_true hj]
      refine if_t ?_
      have R := mw.hw j (List.mem_of_getElem? ho)
      obtain ⟨cw, hcw⟩ := reach_wr R
      obtain ⟨e, he, he'⟩ : ∃ e, es[j]? = some e ∧ es'[j]? = some e := by
        rw [← hes] at hcw ⊢
        exact wr_live hcw
      have hjl : j < es'.length := (List.getElem?_eq_some_iff.mp he').1
      refine ⟨_, rfl, _, rfl, MD, _, rfl, .inl ⟨_, Sum.inl (j : Nat), hM7, rfl, by unfold metKV; rw [List.length_map]; omega, rfl⟩, ?_⟩
      rw [metKV_put hj]
      have kD : Kp [MD] H7 (upd H7 MD (.dK (metKV (ms ++ [j])))) := Kp.put (by simp)
      have hM8 : (upd H7 MD (.dK (metKV (ms ++ [j])))) MD = some (.dK (metKV (ms ++ [j]))) := upd_same
      have hW8 : (upd H7 MD (.dK (metKV (ms ++ [j])))) WL = some (.lst (ws.dropLast.map natV)) := by rw [upd_ne nWM]; exact hW7
      have k8 := k7.trans (kD.mono (by simp))
      generalize upd H7 MD (.dK (metKV (ms ++ [j]))) = H8 at kD hM8 hW8 k8 ⊢
      have rve : ∀ {H' : Hp}, Kp [WL, MD] H4 H' → ∃ x, H' a = some (.tup xs) ∧ xs[j]? = some x ∧ Rp ex H' e.data x := fun kk => by
        obtain ⟨x, hxj, rx⟩ := RpAll.at hx (show (es.map Ent.data)[j]? = some e.data by rw [List.getElem?_map, he]; rfl)
        exact ⟨x, back kk _ _ (by simp) ha, hxj, Rp.keep ((back kk).mono (by simp)) _ _ rx⟩
      have hrs := (ok e (List.mem_of_getElem? he)).rs
      -- the reads' sources
      obtain ⟨x, hax, hxj, rx⟩ := rve k8
      obtain ⟨ds', ed, _, h2⟩ := ent_reads e
      refine ⟨_, rfl, .inl ⟨rfl, _, SqL.of hW8⟩, _, rfl, _, rfl, ⟨a, xs, _, x, rfl, rfl, .inl (.inl hax), atI_nat hxj, c_of (ent_ix rx ed h2 rfl fun u ru => ?_)⟩⟩
      obtain ⟨ra, cs, rfl, _, hra, hcs⟩ := ru
      obtain rfl := strs_of hcs
      refine ⟨ra, rfl, ⟨_, .inl (.inl hra)⟩, fun C nC => ?_⟩
      have nrC : ra ≠ C := fun y => by rw [y, nC] at hra; cases hra
      have kC : Kp [] H8 (upd H8 C (.lst [])) := Kp.laid nC
      have dC : ∀ {H' : Hp}, Kp [C] (upd H8 C (.lst [])) H' → Kp [] H8 H' := fun kk => Kp.drop ((kC.mono (by simp)).trans kk) nC
      refine lc_tup (K := K) (xs := e.rs.map V.str) (fun i H' => Kp [C] (upd H8 C (.lst [])) H' ∧ H' C = some (.lst (((e.rs.take i).map (lastIx es' j)).map natV))) ⟨Kp.refl, upd_same⟩ (fun i H' _ ⟨kk, _⟩ => .inl (.inl (dC kk _ _ (by simp) hra))) (fun i y H' hy ⟨kk, hC⟩ => ?_) fun H' ⟨kk, hC⟩ => ?_
      · obtain ⟨cc, hcc, rfl⟩ : ∃ cc, e.rs[i]? = some cc ∧ V.str cc = y := by
          rw [List.getElem?_map] at hy
          cases hcj : e.rs[i]? with
          | none => rw [hcj] at hy; cases hy
          | some cc => rw [hcj] at hy; exact ⟨cc, rfl, Option.some.inj hy⟩
        have k9 := k8.trans ((dC kk).mono (by simp))
        obtain ⟨ds, d, hB, hd, sn⟩ := (snaps.keep (back1 k9)).ix (i := j) (by omega)
        obtain ⟨isD, dget⟩ := sn.get cc
        refine ⟨rfl, yes_on ⟨_, rfl, _, rfl, ix_lst hB hd rfl ⟨d, rfl, isD, _, rfl, _, dget, ?_⟩⟩⟩
        rw [natV_get]
        refine ⟨_, hC, ?_, kk.trans (Kp.put (by simp)), ?_⟩
        · rw [List.length_map, List.length_map, List.length_take]
          omega
        · rw [upd_same, List.take_add_one, hcc]
          simp
      · have hfull : (e.rs.take (e.rs.map V.str).length) = e.rs := by rw [List.length_map, List.take_length]
        rw [hfull] at hC
        have k9 := dC kk
        refine ⟨WL, C, _, _, rfl, rfl, k9 _ _ (by simp) hW8, hC, ?_, ?_⟩
        · rw [List.length_map, List.length_map, List.length_map, List.length_dropLast]
          omega
        · have kX : Kp [WL] H' (upd H' WL (.lst (ws.dropLast.map natV ++ (e.rs.map (lastIx es' j)).map natV))) := Kp.put (by simp)
          refine ⟨4 * (60 - (ms ++ [j]).length) + (ws.dropLast ++ e.rs.map (lastIx es' j)).length, ?_, _, ms ++ [j], ws.dropLast ++ e.rs.map (lastIx es' j), rfl, (k8.trans (k9.mono (by simp))).trans (kX.mono (by simp)), ?_, ?_, mw.meet ho hj he', ?_, rfl⟩
          · have mm := mw.meet ho hj he'
            have l1 := cell mm.hm mm.nd
            rw [List.length_append, List.length_singleton] at l1 ⊢
            rw [List.length_append, List.length_dropLast, List.length_map]
            omega
          · rw [upd_same, List.map_append]
          · rw [upd_ne nWM.symm]
            exact k9 _ _ (by simp) hM8
          · rw [List.length_append, List.length_append, List.length_dropLast, List.length_map, List.length_singleton]
            omega
end
end NV
/-! PathR -/
set_option Elab.async false
set_option linter.all false
set_option maxRecDepth 100000
set_option maxHeartbeats 1000000
/-! the law's _law_path_right -/
namespace NV
open PySem PySem.Spec PyProof.Rows L2
open C8 (pss_cut pe_gc)
abbrev sLawPathRight : Stmt := topS 58
theorem scLawPathRight : FnScope ["book", "at", "price", "road", "between", "due", "again", "found", "k", "entry"] ["book", "at", "price", "road", "between"] (defScope sLawPathRight) := ⟨rfl, rfl, rfl, by decide +kernel, rfl, by decide +kernel, by decide +kernel⟩
/-- no log, then anything -/
def spRetrBad (CL : Addr) : Sp := fun vs H Q E => ∃ (v u1 u2 : V) (d : PyData) (ex : List Addr), vs = [v, u1, u2] ∧ Rp ex H d v ∧ niceD d = true ∧ logD' d = false ∧ ∀ H', Kp [] H H' → E (.ref CL) none H'
theorem ne_int {K : PySem.W.Frag} {H : Hp} {i : Int} {Q : VK} (q : Q (.bl false) H) : rNeD K (.int i) (.int i) H Q := ne_cost (x := some i) q
theorem in_ints {K : PySem.W.Frag} {H : Hp} {a : Addr} {ns : List Int} {i : Int} {Q : VK} (ha : H a = some (.lst (ns.map V.int))) (hi : i ∈ ns) (q : Q (.bl true) H) : rIn K false (.int i) (.ref a) H Q := by
  refine ⟨a, ns.map V.int, rfl, .inl (SqL.of ha), rfl, ?_, ?_⟩
  · rw [List.all_map]
    exact List.all_eq_true.mpr fun x _ => rfl
  · have e : inV (.int i) (ns.map V.int) = true := by
      unfold inV
      rw [List.any_map, List.any_eq_true]
      exact ⟨i, hi, by show (i == i) = true; exact beq_self_eq_true i⟩
    rw [e]
    exact q
theorem sorted_same : ∀ {a b : List Int}, a.Perm b → a.Pairwise (· ≤ ·) → b.Pairwise (· < ·) → a = b := fun {a b} h ha hb => h.eq_of_pairwise (le := fun x y : Int => x ≤ y) (fun x y _ _ h1 h2 => Int.le_antisymm h1 h2) ha (hb.imp fun h => Int.le_of_lt h)
theorem entsAt_ids {es : List Ent} : ∀ {ps : List Nat}, (∀ t ∈ ps, t < es.length) → (entsAt es ps).map Ent.id = ps.map (nmAt es)
  | [], _ => rfl
  | t :: ps, h => by
    have ih := entsAt_ids (es := es) (ps := ps) fun u hu => h u (List.mem_cons_of_mem _ hu)
    have ht := h t List.mem_cons_self
    unfold entsAt at ih ⊢
    rw [List.filterMap_cons, List.getElem?_eq_getElem ht, List.map_cons, List.map_cons, ih]
    unfold nmAt
    rw [List.getElem?_eq_getElem ht]
def spPathR : Sp := fun vs H Q _ => ∃ (v rd bt : V) (es : List Ent) (i : Nat) (e : Ent) (c : Str) (k : Int) (p : Path) (ps : List Nat) (ex : List Addr), vs = [v, .int (i : Nat), .int k, rd, bt] ∧ Rp ex H (logD es) v ∧ LogOk es ∧ es.length ≤ 60 ∧ es[i]? = some e ∧ e.isW = true ∧ c ∈ e.ws ∧ PathPs es (i + 1) c k p ps ∧
  Rp ex H (pathD p) rd ∧ Rp ex H (.list (ps.map intD)) bt ∧ Live ex H ∧ ∀ H', Kp [] H H' → Q (.bl true) H'
section
variable {P : Program} {w : World} {K : PySem.W.Frag} {mg : Str → Option Value} {base : Heap}
theorem ok_pathR {CI CL : Addr} (DLawPathRight : Fn K mg "_law_path_right" sLawPathRight ["book", "at", "price", "road", "between"]) (DRetractionsFor : Fn K mg "retractions_for" sRetractionsFor ["log", "entry_id", "path"]) (DLawMet : Fn K mg "_law_met" sLawMet ["entries", "goal", "gone"]) (b_sorted : mg "sorted" = none) (b_range : mg "range" = none) (b_sum : mg "sum" = none)
    (GLawMet : FnOk P w K mg base CX0 2 DLawMet.f DLawMet.fd ["entries", "goal", "gone"] spMet) (XRetractionsFor : FnOk P w K mg base (L2.CX P w) 8 DRetractionsFor.f DRetractionsFor.fd ["log", "entry_id", "path"] (fun vs H Q E => spRetrF CI vs H Q E ∨ spRetrBad CL vs H Q E)) :
    FnOk P w K mg base CX0 9 DLawPathRight.f DLawPathRight.fd ["book", "at", "price", "road", "between"] spPathR := by
  refine DLawPathRight.F.ok scLawPathRight (fun vs H Q E h => ?_) (fun cdv A outer s H vs Q E hr h => ?_)
  · obtain ⟨v, rd, bt, es, i, e, c, k, p, ps, ex, rfl, _⟩ := h
    rfl
  obtain ⟨v, rd, bt, es, i, e, c, k, p, ps, ex, rfl, rv, hok, h60, he, hw, hc, hps, rrd, rbt, lv, q⟩ := h
  refine ⟨_, pss_cons (ps_setLc (i := 5) (own := [("k", 8)]) (g := gName 8) (tt := tYes) (by rfl) scLawPathRight.nd rfl rfl (sw_true rfl rfl rfl (by decide +kernel)) (piListE K (pe_callB (cr_sorted) (by rfl) b_sorted (by decide +kernel) (pa_cons (pv 4) pa_nil))) (blkOk_by (N := ["book", "at", "price", "road", "between", "due", "again", "found", "k", "entry"]) (sc := defScope sLawPathRight) (by decide +kernel)) (fun _ _ _ _ _ => (pg_name (i := 8) scLawPathRight.nd rfl (.inl rfl))) (fun _ _ _ _ _ => pts_nil) (fun _ _ _ _ _ => (pe_ix (ixtE K) (pe_ix (ixtE K) (pv 0) (pv 8) (fun _ _ => rfl)) pe_int (fun _ _ => rfl))))
      (pss_cons (ps_for PassesOwn.never rfl (pi_range1 rfl b_range (pa_cons pe_int pa_nil)) (pg_name (i := 6) scLawPathRight.nd rfl (.inl rfl))
      (pss_cons (ps_set (i := 7) scLawPathRight.nd rfl (.inr rfl) (pe_fL DRetractionsFor XRetractionsFor hr (pa_cons (pv 0) (pa_cons (pe_ix (ixtE K) (pe_ix (ixtE K) (pv 0) (pv 1) (fun _ _ => rfl)) pe_int (fun _ _ => rfl)) (pa_cons (pv 3) pa_nil)))))
      (pss_cons (ps_if (PW.pt (pw_or (pt_cmpR (neDE K hr.units) (pv 7) (pv 5) (nomark _)) (pw_or1 (pt_cmpR (neDE K hr.units) (pe_callB (cr_sum rfl) (by rfl) b_sum (by decide +kernel) (pa_cons (pe_lc (own := [("entry", 9)]) (g := gName 9) (by rfl) scLawPathRight.nd (piTupE K (pv 0)) (blkOk_by (N := ["book", "at", "price", "road", "between", "due", "again", "found", "k", "entry"]) (sc := defScope sLawPathRight) (by decide +kernel)) (fun _ _ _ _ _ => (pg_name (i := 9) scLawPathRight.nd rfl (.inl rfl))) (fun _ _ _ _ _ => (pts_one (pt_cmpR (inE K) (pe_ix (ixtE K) (pv 9) pe_int (fun _ _ => rfl)) (pv 7) (by rfl)))) (fun _ _ _ _ _ => (pe_ix (ixtE K) (pv 9) pe_int (fun _ _ => rfl)))) pa_nil)) (pv 2) (nomark _)))))
      (pss_one (ps_ret pe_bl))
      pss_nil)
      (pss_one (ps_expr (bmE K PySem.F.plainAttrs_list PySem.F.slot_list_append PySem.F.type_list_append mt_append (pv 7) (pa_cons pe_str pa_nil)))))))
      (pss_one (ps_ret (pe_cmpR (inE K) (pv 1) (pe_fn DLawMet GLawMet hr (pa_cons (pv 0) (pa_cons (pe_ix (ixtE K) (pv 3) (pe_un un_neg pe_int) (fun _ _ => rfl)) (pa_cons (pv 5) pa_nil)))) (by rfl))))), ?_⟩
  have line : (100000 : Nat) < sizeLine := by decide
  obtain ⟨hpo, hin, hup⟩ := hps.ents
  obtain ⟨pl1, pl2⟩ := hps.len
  obtain ⟨a, xs, rfl, na, ha, hx⟩ := id rv
  obtain ⟨Lb, ls, rfl, nLb, hLb, hls⟩ := id rbt
  obtain rfl := rp_ints hls
  have psl : ps.length ≤ 60 := by omega
  refine ⟨_, rfl, Lb, ps.map fun t : Nat => (t : Int), rfl, .inl (.inl (by rw [List.map_map]; exact hLb)), by rw [List.length_map]; omega, fun ys S hperm hsrt nS => ?_⟩
  have eys : ys = ps.map fun t : Nat => (t : Int) := sorted_same hperm hsrt (List.pairwise_map.mpr (hup.imp fun h => by omega))
  subst eys
  have kS : Kp [] H (upd H S (.lst ((ps.map fun t : Nat => (t : Int)).map V.int))) := Kp.laid nS
  have hS : (upd H S (.lst ((ps.map fun t : Nat => (t : Int)).map V.int))) S = some (.lst (ps.map fun t : Nat => V.int (t : Nat))) := by rw [upd_same, List.map_map]; rfl
  obtain ⟨H1, e1⟩ : ∃ H1, upd H S (.lst ((ps.map fun t : Nat => (t : Int)).map V.int)) = H1 := ⟨_, rfl⟩
  rw [e1] at kS hS ⊢
  have upk : ∀ {Ha Hb : Hp}, Kp [] Ha Hb → Kp ex Ha Hb := fun k => k.mono (by simp)
  have rAt : ∀ {Hx : Hp}, Kp [] H Hx → Rp ex Hx (logD es) (.ref a) := fun k => Rp.keep (upk k) _ _ rv
  have hal : ∀ {Hx : Hp}, Kp [] H Hx → Hx a = some (.tup xs) := fun k => k _ _ (by simp) ha
  have hxl : ∀ {Hx : Hp}, Kp [] H Hx → RpAll ex Hx (es.map Ent.data) xs := fun k => RpAll.keep (upk k) _ _ hx
  refine ⟨S, rfl, ⟨_, .inl (.inl hS)⟩, fun C nC => ?_⟩
  have tb0 : Tabs [] H1 := fun p hp => by cases hp
  refine lc_growLT (T := []) (fun j => V.str (nmAt es (ps.getD j 0))) hS nC tb0 (by rw [List.length_map]; omega) (fun H Q x hQ => hQ) (fun m y H5 Q5 hy k5 _ q5 => ?_) fun H2 k2 _ e2 => ?_
  · obtain ⟨b, hb, rfl⟩ : ∃ b, ps[m]? = some b ∧ V.int (b : Nat) = y := by
      rw [List.getElem?_map] at hy
      cases h : ps[m]? with
      | none => rw [h] at hy; cases hy
      | some b => rw [h] at hy; exact ⟨b, rfl, Option.some.inj hy⟩
    have hbl := (hin b (List.mem_of_getElem? hb)).2
    obtain ⟨eb, heb⟩ : ∃ eb, es[b]? = some eb := ⟨_, List.getElem?_eq_getElem hbl⟩
    obtain ⟨ds, eds, hd1, _⟩ := ent_reads eb
    have k15 := kS.trans k5
    refine ⟨_, rfl, _, rfl, ix_ent (hal k15) (hxl k15) heb fun vb rb => c_of (ent_ix rb eds hd1 rfl fun u ru => ?_)⟩
    obtain rfl : u = .str eb.id := ru
    have : nmAt es (ps.getD m 0) = eb.id := by
      rw [List.getD_eq_getElem?_getD, hb]
      unfold nmAt
      show (match es[b]? with | some e => e.id | none => "") = _
      rw [heb]
    have q5 := q5 H5 Kp.refl (fun p hp => by cases hp)
    rw [this] at q5
    exact q5
  have hids : (List.range (ps.map fun k => V.int (k : Nat)).length).map (fun j => V.str (nmAt es (ps.getD j 0))) = ((entsAt es ps).map Ent.id).map V.str := by
    rw [entsAt_ids fun t ht => (hin t ht).2, List.length_map]
    have := range_get ps 0
    conv => rhs; rw [← this]
    rw [List.map_map, List.map_map]
    rfl
  rw [hids] at e2
  obtain ⟨hsum, hpri, hsub, _⟩ := hpo.sum
  obtain ⟨bs', ebs⟩ : ∃ bs', entsAt es ps = bs' := ⟨_, rfl⟩
  rw [ebs] at e2 hpo hsum hpri hsub
  have k02 : Kp [] H H2 := kS.trans k2
  have hsubE : bs'.Sublist es := hsub.trans (List.drop_sublist _ _)
  have bl60 : bs'.length ≤ 60 := Nat.le_trans hsubE.length_le h60
  have idok : ∀ z ∈ bs'.map Ent.id, PyData.strOk z = true := fun z hz => by
    obtain ⟨u, hu, rfl⟩ := List.mem_map.mp hz
    exact (word_len (Ent.Ok.idOk (hok.ok u (hsubE.subset hu)))).2
  have inb : ∀ u ∈ es, (u.id ∈ bs'.map Ent.id ↔ u ∈ bs') := fun u hu => by
    refine ⟨fun h => ?_, fun h => List.mem_map.mpr ⟨u, h, rfl⟩⟩
    obtain ⟨z, hz, ez⟩ := List.mem_map.mp h
    have := id_one hok.nd (hsubE.subset hz) hu ez
    rw [← this]
    exact hz
  have hsum2 : ((es.filter fun u => decide (u.id ∈ bs'.map Ent.id)).map fun e => e.pr.getD 0).sum = k := by
    rw [sum_gone, sum_price_sub hsubE hok.nd, hsum]
  obtain ⟨dse, ede, hde1, _⟩ := ent_reads e
  have hwd : writeD es (.str e.id) = some i := by
    unfold writeD
    rw [show posD es (.str e.id) = some i from posS_of hok.nd he (id_ne (hok.ok _ (List.mem_of_getElem? he)))]
    dsimp only
    rw [if_pos (by unfold writeAt; rw [he]; exact hw)]
  have hblk := path_blkrs hok he hc hpo
  refine ⟨2, rfl, by decide, by decide, ?_⟩
  refine for_range (fun n σ H' => ∃ c6 c7 : Option V, σ = [some (.ref a), some (.int (i : Nat)), some (.int k), some rd, some (.ref Lb), some (.ref C), c6, c7, none, none] ∧ Kp [] H2 H') ⟨none, none, rfl, Kp.refl⟩ ?_ ?_
  · rintro n σ H3 hn ⟨c6, c7, rfl, k3⟩
    have k03 := k02.trans k3
    refine ⟨_, rfl, _, rfl, _, rfl, ix_ent (hal k03) (hxl k03) he fun ve re => c_of (ent_ix re ede hde1 rfl fun u ru => ?_)⟩
    obtain rfl : u = .str e.id := ru
    refine ⟨_, rfl, .inl ⟨.ref a, .str e.id, rd, es, .str e.id, pathD p, ex, rfl, rAt k03, hok, h60, lv.kp0 k03, rfl, Rp.keep (upk k03) _ _ rrd, ?_, ?_, ?_⟩⟩
    · intro ds hds
      have e1 : p.map stepD = ds := PyData.tuple.inj hds
      rw [← e1, List.length_map]
      omega
    · intro h
      rw [hwd] at h
      cases h
    rintro _ h9
    rw [hwd] at h9
    cases h9
    refine ⟨fun h => (by rw [hblk] at h; exact nomatch h), fun l hl' gp H4 k4 ngp hgp => ?_⟩
    rw [hblk] at hl'
    obtain rfl := Option.some.inj hl'
    have k04 := k03.trans k4
    have hC4 := (k3.trans k4) _ _ (by simp) e2
    refine ⟨_, rfl, _, rfl, ne_strs (zs := bs'.map Ent.id) (SqL.of hgp) (SqL.of hC4) idok ⟨_, rfl, iteF ?_⟩⟩
    -- the sum
    refine ⟨_, rfl, a, rfl, ⟨_, .inl (.inl (hal k04))⟩, fun C2 nC2 => ?_⟩
    have ngC : gp ≠ C2 := fun z => by rw [← z, hgp] at nC2; cases nC2
    have hl : es.length = xs.length := len_data hx
    refine lc_ents (J := Itt K a) (gs := es) (ex := ex) (fun e => prD e.pr) (fun u => decide (u.id ∈ bs'.map Ent.id)) (walks_tup (hal k04) nC2) nC2 (hxl k04) (by omega) (fun u x H2 Q2 hm k2 r2 q2 => ?_) (fun u x H2 Q2 hm hp k2 r2 q2 => ?_) (fun H6 zs k6 e6 r6 => ?_) fun x => wipe_one _ _ _
    · obtain ⟨d4, ed4, hd4, _⟩ := ent_reads u
      refine ⟨_, rfl, c_of (ent_ix r2 ed4 hd4 rfl fun vi ri => ?_)⟩
      obtain rfl : vi = .str u.id := ri
      exact ⟨_, rfl, in_lst false (k2 _ _ (by simp [ngC]) hgp) ⟨_, rfl, q2 H2 Kp.refl⟩⟩
    · have hub := (inb u hm).mp (of_decide_eq_true hp)
      have hpu := hpri u hub
      have hwu : u.isW = true := by
        cases u with
        | wr => rfl
        | _ => exact absurd rfl hpu
      obtain ⟨d4, ed4, _, hd4⟩ := ent_writes hwu
      exact ⟨_, rfl, c_of (ent_ix r2 ed4 hd4 rfl fun vi ri => q2 vi H2 Kp.refl ri)⟩
    have ez : zs = ((es.filter fun u => decide (u.id ∈ bs'.map Ent.id)).map fun e => e.pr.getD 0).map V.int := by
      rw [prs_of r6, List.map_map]
      refine List.map_congr_left fun u hu => ?_
      obtain ⟨hu1, hu2⟩ := List.mem_filter.mp hu
      have hn := hpri u ((inb u hu1).mp (of_decide_eq_true hu2))
      have e1 : prW u.pr = V.int (u.pr.getD 0) := by
        cases hp : u.pr with
        | none => exact absurd hp hn
        | some i => rfl
      exact e1
    rw [ez] at e6
    have k6' : Kp [] H4 H6 := Kp.drop k6 nC2
    refine ⟨C2, _, rfl, SqL.of e6, ?_⟩
    rw [hsum2]
    refine ⟨_, rfl, ne_int ⟨_, rfl, iteF ?_⟩⟩
    have hgp6 := k6' _ _ (by simp) hgp
    refine ⟨_, rfl, .inl ⟨rfl, _, SqL.of hgp6⟩, gp, _, .str "more", rfl, rfl, hgp6, by rw [List.length_map, List.length_map]; omega, ?_⟩
    have kf : Kp [] H3 (upd H6 gp (.lst ((bs'.map Ent.id).map V.str ++ [.str "more"]))) := Kp.drop (((k4.trans k6').mono (by simp)).trans (Kp.put (by simp))) ngp
    exact ⟨_, _, rfl, k3.trans kf⟩
  · rintro σ H3 ⟨c6, c7, rfl, k3⟩
    have k03 := k02.trans k3
    obtain ⟨q3, hgoal, hlast, hpos3, hreach⟩ := path_reach hok.nd hpo (bs'.map Ent.id) (fun t u _ hu => inb u (List.mem_of_getElem? hu))
    have ixu : ∀ {a b : Nat} {u t : Ent}, es[a]? = some u → es[b]? = some t → u.id = t.id → a = b := fun {a b u t} ha hb h => by
      refine (List.getElem?_inj (l := es.map Ent.id) (by rw [List.length_map]; exact (List.getElem?_eq_some_iff.mp ha).1) hok.nd).mp ?_
      rw [List.getElem?_map, List.getElem?_map, ha, hb]
      exact congrArg some h
    have hpos : PosOf es q3.1 q3.2.2 := by
      rcases hpos3 with h | ⟨u, hu, hz⟩
      · exact .inl h
      · refine .inr ⟨fun z => id_ne (hok.ok _ (List.mem_of_getElem? hu)) (by rw [hz]; exact z), ⟨u, hu, hz⟩, fun b t hb ht hz' => ?_⟩
        have := ixu ht hu (by rw [hz, hz'])
        omega
    have hejn : e.id ∉ bs'.map Ent.id := fun h => by
      have hm := hsub.subset ((inb e (List.mem_of_getElem? he)).mp h)
      obtain ⟨n, hn⟩ := List.getElem?_of_mem hm
      rw [List.getElem?_drop] at hn
      have := ixu he hn rfl
      omega
    have hre := hreach i e rfl he hc hejn
    obtain ⟨ws, vs9, rfl, nws, hws, hvs9⟩ := Rp.keep (upk k03) _ _ rrd
    have hlen9 : vs9.length = p.length := by
      have := hvs9.length
      rw [List.length_map] at this
      exact this.symm
    obtain ⟨ul, hul, rul⟩ := RpAll.at hvs9 (show (p.map stepD)[p.length - 1]? = some (stepD (q3.1, q3.2.1)) by rw [List.getElem?_map, ← List.getLast?_eq_getElem?, hlast]; rfl)
    obtain ⟨sa, ss, rfl, nsa, hsa, hss⟩ := rul
    refine ⟨_, rfl, _, rfl, _, rfl, 1, rfl, ws, vs9, -1, .ref sa, rfl, rfl, .inl (.inl hws), atI_end (by rw [hlen9]; exact hul), _, rfl, ?_⟩
    obtain rfl := strs_of (zs := [q3.1, q3.2.1]) hss
    refine ⟨.ref a, sa, C, es, bs'.map Ent.id, q3.1, q3.2.1, q3.2.2, ex, rfl, rAt k03, hok.ok, h60, hsa, hpos, k3 _ _ (by simp) e2, by rw [List.length_map]; omega, lv.kp0 k03, fun mp H7 k7 nmp hmp => ?_⟩
    exact in_ints (ns := (metL (es.map (bl (bs'.map Ent.id))) q3 q3.2.2).reverse.map fun n : Nat => (n : Int)) (by rw [List.map_map]; exact hmp) (List.mem_map.mpr ⟨i, List.mem_reverse.mpr ((met_iff i).mpr hre), rfl⟩) (q H7 (k03.trans k7))
end
end NV
/-! CallX -/
set_option Elab.async false
set_option linter.all false
set_option maxRecDepth 100000
set_option maxHeartbeats 600000
/-! a def of the top called in several ways, where it may raise -/
namespace NV
open PySem PySem.Spec PyProof.Rows L2
section
variable {K : PySem.W.Frag} {h : Heap} {mg : Str → Option Value} {nm : Str} {st : Stmt} {q : Str} {φ : Value → Prop}
/-- how a def is called by keywords without its keyword-only parameter q -/
theorem kwl_at {ks ps : List Str} {n : Nat} (X : K.In h) (G : h.Ns mainGlobals mg) (a : AtQ K nm st q φ) (D : FnF K mg nm st)
    (hb : ∀ (Dk : Addr) (doc pm : Value) (an : Option Addr) (cdv ct : Value) (us mv ws : List Value), us.length = n → mv.length = 1 → ws.length = ks.length → KwChain Dk ([q].zip mv) (bindArgs (PySem.W.fnOf nm nm (defArgs st) (defBody st) (defScope st) .none (.ref Dk) doc pm an cdv ct) ⟨us, ks.zip ws⟩) (ps.zip (us ++ ws ++ mv))) :
    ∃ u, φ u ∧ ∀ v, RelV v u → ∃ g, KBn K D.fd ps n ks g (fun vs zs => vs ++ zs ++ [v]) := by
  obtain ⟨f, Dk, oc, od, doc, pm, an, cd, ct, sl, u, a1, l1, c1, k1, d1, p1⟩ := a
  obtain ⟨f', fd', F', m'⟩ := D
  have e1 := PySem.W.mg_of X G a1
  rw [m'] at e1
  cases e1
  obtain ⟨oc', od', kV', doc', pm', an', cdv', ct', osl', e2, lk', hcd'⟩ := F'.ex
  rw [l1] at lk'
  have e3 := congrArg Obj.data (Option.some.inj lk')
  have e4 : PySem.W.fnOf nm nm (defArgs st) (defBody st) (defScope st) .none (.ref Dk) doc pm an cd ct = fd' := by
    injection e3
  refine ⟨u, p1, fun v rv => ?_⟩
  have F : FunD K nm nm (defArgs st) (defBody st) (defScope st) [] [(q, v)] f fd' := by
    rw [← e4]
    exact ⟨⟨oc, od, .none, .ref Dk, doc, pm, an, cd, ct, sl, rfl, l1, c1, .inl ⟨rfl, rfl⟩, .inr ⟨Dk, rfl, fun p hp => ⟨u, by rw [List.mem_singleton.mp hp]; exact ⟨d1, rv⟩⟩⟩⟩, k1⟩
  obtain ⟨mv, B⟩ := F.kbinds0 (ps := ps) n ks [(q, v)] (fun us mv ws => us ++ ws ++ mv) (by simp) (fun _ hq => hq) (fun r1 r2 r3 => (r1.append r3).append r2) fun D doc pm an cdv ct us mv ws h1 h2 h3 => hb D doc pm an cdv ct us mv ws h1 h2 h3
  exact ⟨_, B⟩
end
section
variable {X : Cx} {E : XK} {nm : Str} {st : Stmt} {ps ks : List Str} {sp : Sp} {e : Expr} {es : List Expr} {kws : List Keyword} {t tk : TA} {p pos : Pos} {j k n : Nat} {g : List Value → List Value → List Value} {gV : List V → List V → List V}
theorem pe_qx (D : FnF X.K X.mg nm st) (B : KBn X.K D.fd ps n ks g gV) (G : FnOk X.prog X.w X.K X.mg X.base (L2.CX X.prog X.w) j D.f D.fd ps sp) (hr : Room k X.A) (tk' : Takes X fun cls d _ H => E cls d H) (ha : PA X (e :: es) t) (hkw : PK X kws tk)
    (hk : j ≤ k := by decide) (hg : Gl X nm := by rfl) (hall : ((backToKw pos (keywordEach kws X.env)).all (·.1.isSome)) = true := by rfl) (hks : (backToKw pos (keywordEach kws X.env)).filterMap (·.1) = ks := by rfl) (hdb : (nm == ("__debug__" : Str)) = false := by decide)
    (he : starEach (e :: es) X.env = (false, eval e X.env) :: starEach es X.env := by rfl) (hpl : (((backTo pos (starEach (e :: es) X.env)).any (·.1)) || ((backToKw pos (keywordEach kws X.env)).any (·.1.isNone))) = false := by rfl) :
    PE X (.Call (.Name nm p) (e :: es) kws pos) (tCallN n ks.length sp gV E t tk) := pe_callN G (hr.mono hk) hg D.m D.F.kp B (pass_all tk') ha hkw hall hks hdb he hpl
def tCallWX (m : Nat) (sp : Sp) (gV : List V → List V → List V) (E : XK) (tk : TA) : TE := fun σ H Q => tk σ H fun zs H2 => zs.length = m ∧ sp (gV [] zs) H2 Q E
theorem pe_q0x (D : FnF X.K X.mg nm st) (B : KBn X.K D.fd ps 0 ks g gV) (G : FnOk X.prog X.w X.K X.mg X.base (L2.CX X.prog X.w) j D.f D.fd ps sp) (hr : Room k X.A) (tk' : Takes X fun cls d _ H => E cls d H) (hkw : PK X kws tk)
    (hk : j ≤ k := by decide) (hg : Gl X nm := by rfl) (hall : ((backToKw pos (keywordEach kws X.env)).all (·.1.isSome)) = true := by rfl) (hks : (backToKw pos (keywordEach kws X.env)).filterMap (·.1) = ks := by rfl) (hdb : (nm == ("__debug__" : Str)) = false := by decide)
    (hpl : (((backTo pos (starEach [] X.env)).any (·.1)) || ((backToKw pos (keywordEach kws X.env)).any (·.1.isNone))) = false := by rfl) :
    PE X (.Call (.Name nm p) [] kws pos) (tCallWX ks.length sp gV E tk) := by
  refine ⟨fun pins s σ H Q I h => ?_⟩
  refine wpAny_Call_Name_kw (ld_glob I hg D.m ?_ hdb)
  refine PySem.W.callWith_KW0 (h₀ := X.base) I.ok.mod.kin D.F.kp hall (thn (hkw.run pos pins s σ H _ I h) fun ws s2 ⟨zs, H2, I2, rz, l2, q2⟩ => ⟨I2.kIn, ?_⟩) hpl
  rw [hks]
  exact run_fnN (vs := []) G (hr.mono hk) B (pass_all tk') I2 .nil rz rfl l2 q2
/-- f(k = v, ..), a def that may raise, asked rightly -/
theorem pe_q0L (D : FnF X.K X.mg nm st) (B : KBn X.K D.fd ps 0 ks g gV) (G : FnOk X.prog X.w X.K X.mg X.base (L2.CX X.prog X.w) j D.f D.fd ps sp) (hr : Room k X.A) (hkw : PK X kws tk)
    (hk : j ≤ k := by decide) (hg : Gl X nm := by rfl) (hall : ((backToKw pos (keywordEach kws X.env)).all (·.1.isSome)) = true := by rfl) (hks : (backToKw pos (keywordEach kws X.env)).filterMap (·.1) = ks := by rfl) (hdb : (nm == ("__debug__" : Str)) = false := by decide)
    (hpl : (((backTo pos (starEach [] X.env)).any (·.1)) || ((backToKw pos (keywordEach kws X.env)).any (·.1.isNone))) = false := by rfl) :
    PE X (.Call (.Name nm p) [] kws pos) (tCallWX ks.length sp gV L2.E0 tk) := by
  refine ⟨fun pins s σ H Q I h => ?_⟩
  refine wpAny_Call_Name_kw (ld_glob I hg D.m ?_ hdb)
  refine PySem.W.callWith_KW0 (h₀ := X.base) I.ok.mod.kin D.F.kp hall (thn (hkw.run pos pins s σ H _ I h) fun ws s2 ⟨zs, H2, I2, rz, l2, q2⟩ => ⟨I2.kIn, ?_⟩) hpl
  rw [hks]
  exact run_fnN (vs := []) G (hr.mono hk) B passL I2 .nil rz rfl l2 q2
theorem pe_qnx (D : FnF X.K X.mg nm st) (B : Binds X.K D.fd ps []) (G : FnOk X.prog X.w X.K X.mg X.base (L2.CX X.prog X.w) j D.f D.fd ps sp) (hr : Room k X.A) (tk' : Takes X fun cls d _ H => E cls d H) (ha : PA X (e :: es) t)
    (hk : j ≤ k := by decide) (hg : Gl X nm := by rfl) (hdb : (nm == ("__debug__" : Str)) = false := by decide) (he : starEach (e :: es) X.env = (false, eval e X.env) :: starEach es X.env := by rfl) (hpl : (backTo pos (starEach es X.env)).any (·.1) = false := by rfl) :
    PE X (.Call (.Name nm p) (e :: es) [] pos) (tCall sp [] E t) := pe_call G (hr.mono hk) hg D.m D.F.kp B .nil (pass_all tk') ha hdb he hpl
theorem pe_qlx {dvs : List V} (D : FnF X.K X.mg nm st) (B : Lack X.K D.fd ps dvs) (G : FnOk X.prog X.w X.K X.mg X.base (L2.CX X.prog X.w) j D.f D.fd ps sp) (hr : Room k X.A) (tk' : Takes X fun cls d _ H => E cls d H) (ha : PA X (e :: es) t)
    (hk : j ≤ k := by decide) (hg : Gl X nm := by rfl) (hdb : (nm == ("__debug__" : Str)) = false := by decide) (he : starEach (e :: es) X.env = (false, eval e X.env) :: starEach es X.env := by rfl) (hpl : (backTo pos (starEach es X.env)).any (·.1) = false := by rfl) :
    PE X (.Call (.Name nm p) (e :: es) [] pos) (tCall sp dvs E t) := by
  obtain ⟨ds, vs, b⟩ := B.ex
  exact pe_call G (hr.mono hk) hg D.m D.F.kp b vs (pass_all tk') ha hdb he hpl
end
end NV
/-! KeepEx -/
set_option Elab.async false
set_option linter.all false
set_option maxRecDepth 100000
set_option maxHeartbeats 1000000
/-! try .. except E as e: .. with what follows it: the caught object stays pinned -/
namespace NV
open PySem PySem.Spec PyProof.Rows
open L2
/-- statements that are never reached -/
theorem pss_dead {X : Cx} (l : List Stmt) : PSs X l (fun _ _ _ => False) := ⟨fun _ _ _ _ _ _ h => h.elim⟩
section
variable {X : Cx} {pins pn' : List (Addr × Obj)} {σ : L2.St} {H : Hp} {s : Shared}
theorem inv_unkeep {q : Addr × Obj} {xe : Value → Shared → Prop} (ok : X.Ok) (I : Inv (X.tr (q :: (X.pn ++ pins)) xe) pn' σ H s) : Inv X pins σ H s where
  ok := ok
  os := I.os
  bare := I.bare
  base := I.base
  loc := I.loc
  cell := I.cell
  free := I.free
  freeC := I.freeC
  pin := fun p hp => by
    refine I.pin p ?_
    show p ∈ (q :: (X.pn ++ pins)) ++ pn'
    exact List.mem_append_left pn' (List.mem_cons_of_mem q hp)
  hok := I.hok
  len := I.len
theorem inv_keep {a : Addr} {q : Addr × Obj} (ok : X.Ok) (I : Inv (X.suite a (q :: (X.pn ++ pins))) pn' σ H s) : Inv (X.tr (q :: (X.pn ++ pins)) X.xe) [] σ H s where
  ok := ok.toTry _ _
  os := I.os
  bare := I.bare
  base := I.base
  loc := I.loc
  cell := I.cell
  free := I.free
  freeC := I.freeC
  pin := fun p hp => by
    refine I.pin p ?_
    show p ∈ (q :: (X.pn ++ pins)) ++ pn'
    rw [List.append_nil] at hp
    exact List.mem_append_left pn' hp
  hok := I.hok
  len := I.len
/-- behind the statement: as usual, or with the caught object pinned -/
def KeepP (X : Cx) (pins : List (Addr × Obj)) (D : Ends) (M : Addr → Value → Option Addr → L2.St → Hp → Prop) (f : Flow) (s : Shared) : Prop :=
  SP X pins D f s ∨ (f = .next ∧ ∃ (a : Addr) (oe : Obj) (cls : Value) (d : Option Addr) (σ' : L2.St) (H' : Hp), Zc cls d oe ∧ (∃ vs, oe.data = .fields vs) ∧ Inv (X.tr ((a, oe) :: (X.pn ++ pins)) X.xe) [] σ' H' s ∧ M a cls d σ' H')
/-- what the clause wishes of an exception of the body -/
def wKeep (K : PySem.W.Frag) (c : Value) (i : Nat) (ts : Addr → Value → Option Addr → TS) (Wout : WX) (M : Addr → Value → Option Addr → L2.St → Hp → Prop) : WX := fun cls d σ H =>
  ∃ b, PySem.W.exmOne K cls c = some b ∧ (b = false → Wout cls d σ H) ∧
    (b = true → ∀ a, H a = none → ts a cls d { nx := fun σ' H' => M a cls d (σ'.set i none) H', rt := fun _ _ => False, bk := fun _ _ => False, ct := fun _ _ => False } (σ.set i (some (.ref a))) H)
end
section
variable {X : Cx} {x n : Str} {c : Value} {i : Nat} {body suite : List Stmt} {b₀ : Stmt} {np pos pos' : Pos} {tb : WX → TS} {ts : Addr → Value → Option Addr → TS} {Wout : WX}
theorem keep_try (hs : X.stack = X.env :: X.outer) (hf : X.env.frame = some X.env.locals) (hN : X.N.Nodup) (hi : X.N[i]? = some n) (hln : X.env.kindOf n = some .local) (hc : L2.Names X x c)
    (tk : Takes X Wout) (hb : ∀ (W : WX) (pn : List (Addr × Obj)) (xe : Value → Shared → Prop), Takes (X.tr pn xe) W → PassesOwn (model X.prog X.w) X.A X.env xe → PSs (X.tr pn xe) body (tb W))
    (hsu : ∀ (a : Addr) (oe : Obj) (cls : Value) (d : Option Addr) (pn : List (Addr × Obj)), Zc cls d oe → (∃ vs, oe.data = .fields vs) → PSs (X.suite a ((a, oe) :: pn)) (b₀ :: suite) (ts a cls d))
    {pins : List (Addr × Obj)} {σ : L2.St} {H : Hp} {s : Shared} (D : Ends) (M : Addr → Value → Option Addr → L2.St → Hp → Prop) (I : Inv X pins σ H s) (h : tb (wKeep X.K c i ts Wout M) D σ H) :
    wpAny (model X.prog X.w) X.A (exec (.Try body [.ExceptHandler (some (.Name x np)) (some n) (b₀ :: suite) pos'] [] [] pos) X.env) (KeepP X pins D M) X.xe s := by
  have ok := I.ok
  have hfr : X.A.frames = some (X.env :: X.outer) := by
    rw [ok.frames, hs]
  have hloc : Loc X.env.scope n := Or.inl hln
  refine wpAny_Try_except ?_
  let xe' : Value → Shared → Prop := fun e s₁ => wpAny (model X.prog X.w) X.A (noteFrame e X.env)
    (fun _ s₂ => wpAny (model X.prog X.w) X.A (setFlight e none)
      (fun _ s₃ => wpAny (model X.prog X.w) X.A
        (handleBy e X.env [.ExceptHandler (some (.Name x np)) (some n) (b₀ :: suite) pos'])
        (KeepP X pins D M) X.xe s₃) X.xe s₂) X.xe s₁
  have takes : Takes (X.tr (X.pn ++ pins) xe') (wKeep X.K c i ts Wout M) := by
    rintro _ t ⟨a, G, sI, ps', τ, Ha, cls, d, rfl, Ia, ng, us, sk, na, ho, hg, m, hm, hno, hyes⟩
    have Ib : Inv X pins τ Ha sI := Ia.ofTry ok
    rw [show (X.tr (X.pn ++ pins) xe').stack = X.env :: X.outer from hs] at sk
    refine Sky.land Zc.steady hfr hf sk ?_
    intro g1 fl1 u1
    have I1 : Inv X pins τ Ha { t with heap := g1 } := Ib.landed ng fl1.1 (us.trans u1) ho hg
    obtain ⟨o1, vs1, he1, hz1, hd1⟩ := fl1.there
    have out : a ∉ frs (X.env :: X.outer) := by
      intro y
      obtain ⟨_, o2, e2, no⟩ := fl1.2.2.1.mem y
      rw [he1] at e2
      obtain rfl := Option.some.inj e2
      exact no _ hd1
    have aL : a ≠ X.env.locals := by
      intro y
      refine out (List.mem_filterMap.mpr ⟨X.env, ?_, ?_⟩)
      · simp
      · rw [hf, y]
    have aF : a ∉ X.fs := by
      intro y
      obtain ⟨v, hv, q⟩ := List.mem_filterMap.mp y
      refine out (List.mem_filterMap.mpr ⟨v, ?_, q⟩)
      simp [hv]
    have S1 := I1.suite he1 hd1 na aL aF
    refine wpAny_handleBy_cons ?here ?other
    case other =>
      intro y
      cases y
    refine codeAny_handlers_test ?_
    have ty1 : PySem.W.Looks (model X.prog X.w) g1 (typeOf (.ref a)) cls := by
      intro A1 Q1 E1 s1 k1 q1
      refine wpAny_typeOf_ref (k1 _ _ he1) ?_
      rw [hz1.1]
      exact q1
    have which := PySem.W.exm_one (M := model X.prog X.w) I1.kIn ty1 hm
    have name : ∀ {Q : Value → Shared → Prop} {E : Value → Shared → Prop}, Q c { t with heap := g1 } →
        wpAny (model X.prog X.w) (X.A.mark (some (.ref a))) (eval (.Name x np) X.env) Q E { t with heap := g1 } := by
      intro Q E q
      obtain ⟨c1, c2, c3⟩ := hc
      rcases c3 with c3 | ⟨c3, c4, c5⟩
      · exact ld_glob (X := X.suite a ((a, o1) :: (X.pn ++ pins))) S1 c1 c3 q c2
      · exact ld_blt (X := X.suite a ((a, o1) :: (X.pn ++ pins))) S1 c1 c3 c4 q c5 c2
    refine name (which.here ?_)
    cases m with
    | true =>
      refine codeAny_handlers_suite_as ?_
      refine HandSPX.lands_againZ fl1 ?_
      intro g2 fl2 u2
      have I2 : Inv X pins τ Ha { t with heap := g2 } := Ib.landed ng fl2.1 (us.trans (u1.trans u2)) ho hg
      obtain ⟨o2, vs2, he2, hz2, hd2⟩ := fl2.there
      have S2 := I2.suite he2 hd2 na aL aF
      refine store_ok (X := X.suite a ((a, o2) :: (X.pn ++ pins))) (v := .ref a) S2 hN hi hloc rfl ?_ (.inr hln)
      intro s5 S5
      have go := (hsu a o2 cls d (X.pn ++ pins) hz2 ⟨_, hd2⟩).run [] s5 _ Ha _ S5 (hyes rfl a na)
      refine wpAny_mono go ?_ fun _ _ y => y.elim
      intro f s6 sp6
      cases f with
      | next =>
        obtain ⟨τ6, H6, S6, q6⟩ := sp6
        refine gone_ok (X := X.tr ((a, o2) :: (X.pn ++ pins)) X.xe) (inv_keep ok S6) hN hi hln ?_
        intro s7 I7
        exact .inr ⟨rfl, a, o2, cls, d, _, _, hz2, ⟨_, hd2⟩, I7, q6⟩
      | brk => exact sp6.elim fun _ y => y.elim fun _ y => y.2.elim
      | cont => exact sp6.elim fun _ y => y.elim fun _ y => y.2.elim
      | ret u => exact sp6.elim fun _ y => y.elim fun _ y => y.elim fun _ y => y.2.2.elim
    | false =>
      have w1 := hno rfl
      refine wpAny_handleBy_nil ?_
      obtain ⟨_, _, _, o2, vs2, tb2, _, _, he2, hz2, hd2, hn2, _⟩ := id fl1
      unfold PySem.passOn
      refine wpAny_bind (wpAny_field he2 hd2 hn2 ?_)
      have notN : ¬ ((Value.ref tb2 == Value.none) = true) := by simp
      rw [if_neg notN]
      have off : wpAny (model X.prog X.w) X.A (setFlight (.ref a) X.env.frame)
          (fun _ s4 => wpAny (model X.prog X.w) X.A (throw (.ref a) : Sem Flow) (KeepP X pins D M) X.xe s4)
          X.xe { t with heap := g1 } := by
        rw [hf]
        refine HandSPX.setFlight_upZ fl1 ?_
        intro g2 held u2
        refine wpAny_throw (tk _ _ ?_)
        refine ⟨a, G, sI, pins, τ, Ha, cls, d, rfl, Ib, ng, us.trans (u1.trans u2), ?_, na, ho, hg, w1⟩
        rw [hs]
        exact .inr (.inr held)
      first
        | exact wpAny_bind off
        | exact wpAny_bind (wpAny_pure (wpAny_bind off))
  have run := (hb (wKeep X.K c i ts Wout M) (X.pn ++ pins) xe' takes PassesOwn.looking).run [] s σ H D (I.toTry _) h
  refine wpAny_mono run ?_ ?_
  · intro f s1 hsp
    cases f with
    | next =>
      obtain ⟨σ', H', J', q⟩ := hsp
      exact wpAny_execs_nil (.inl ⟨σ', H', J'.ofTry ok, q⟩)
    | brk =>
      obtain ⟨σ', H', J', q⟩ := hsp
      exact .inl ⟨σ', H', J'.ofTry ok, q⟩
    | cont =>
      obtain ⟨σ', H', J', q⟩ := hsp
      exact .inl ⟨σ', H', J'.ofTry ok, q⟩
    | ret u =>
      obtain ⟨v, σ', H', J', r, q⟩ := hsp
      exact .inl ⟨v, σ', H', J'.ofTry ok, r, q⟩
  · exact fun e s1 he => he
/-- the statement, and all that follows it in the same block -/
theorem pss_keep {rest : List Stmt} {tr : TS} {te : Addr → Value → Option Addr → TS} (hs : X.stack = X.env :: X.outer) (hf : X.env.frame = some X.env.locals) (hN : X.N.Nodup) (hi : X.N[i]? = some n) (hln : X.env.kindOf n = some .local) (hc : L2.Names X x c)
    (tk : Takes X Wout) (hb : ∀ (W : WX) (pn : List (Addr × Obj)) (xe : Value → Shared → Prop), Takes (X.tr pn xe) W → PassesOwn (model X.prog X.w) X.A X.env xe → PSs (X.tr pn xe) body (tb W))
    (hsu : ∀ (a : Addr) (oe : Obj) (cls : Value) (d : Option Addr) (pn : List (Addr × Obj)), Zc cls d oe → (∃ vs, oe.data = .fields vs) → PSs (X.suite a ((a, oe) :: pn)) (b₀ :: suite) (ts a cls d))
    (hr : PSs X rest tr) (hk : ∀ (a : Addr) (oe : Obj) (cls : Value) (d : Option Addr) (pn : List (Addr × Obj)), Zc cls d oe → (∃ vs, oe.data = .fields vs) → PSs (X.tr ((a, oe) :: pn) X.xe) rest (te a cls d)) :
    PSs X (.Try body [.ExceptHandler (some (.Name x np)) (some n) (b₀ :: suite) pos'] [] [] pos :: rest) (fun D σ H => tb (wKeep X.K c i ts Wout fun a cls d σ' H' => te a cls d D σ' H') { D with nx := tr D } σ H) := by
  refine ⟨fun pins s σ H D I h => ?_⟩
  have ok := I.ok
  refine wpAny_execs_cons (thn (keep_try hs hf hN hi hln hc tk hb hsu { D with nx := tr D } _ I h) ?_)
  intro f s1 q
  rcases q with q | ⟨rfl, a, oe, cls, d, σ', H', hz, hd, I', m⟩
  · cases f with
    | next =>
      obtain ⟨σ', H', I', q⟩ := q
      exact hr.run pins s1 σ' H' D I' q
    | brk => exact q
    | cont => exact q
    | ret u => exact q
  · have go := (hk a oe cls d (X.pn ++ pins) hz hd).run [] s1 σ' H' D I' m
    refine thn go ?_
    intro f s2 y
    cases f with
    | next => exact y.imp fun _ z => z.imp fun _ w => ⟨inv_unkeep ok w.1, w.2⟩
    | brk => exact y.imp fun _ z => z.imp fun _ w => ⟨inv_unkeep ok w.1, w.2⟩
    | cont => exact y.imp fun _ z => z.imp fun _ w => ⟨inv_unkeep ok w.1, w.2⟩
    | ret u => exact y.imp fun _ z => z.imp fun _ z => z.imp fun _ w => ⟨inv_unkeep ok w.1, w.2⟩
end
end NV
/-! IsEx -/
set_option Elab.async false
set_option linter.all false
set_option maxRecDepth 100000
set_option maxHeartbeats 4000000
/-! isinstance and attributes of a caught error with a dict of its own, where it is pinned -/
namespace NV
open PySem PySem.Spec PySem.W PySem.Calls PyProof.Rows
section
variable {prog : Program} {w : World} {A : Around} {E : Value → Shared → Prop} {s : Shared} {K : Frag} {x D : Addr} {ox : Obj} {od : Option Obj}
/-- __class__ is a data descriptor: the instance's own dict is not asked -/
theorem find_class (C : L2.ExcC K D) : findObj K D od "__class__" = some (.bind (.builtin "getset_descriptor.__get__") (.builtin "object.__class__")) := by
  obtain ⟨cd, hcd, _⟩ := any_some C.hd
  unfold findObj
  rw [hcd]
  rw [Option.bind_some, C.ha]
  rw [Option.bind_some]
  simp [C.hn, C.ht]
theorem class_of {Q : Option Value → Shared → Prop} (C : L2.ExcC K D) (X : K.In s.heap) (I : PySem.W.InstAt s.heap x ox D od) (h : Q (some (.ref D)) { s with toks := s.toks + 1 }) :
    wpAny (model prog w) A (getAttr? (.ref x) "__class__") Q E s := by
  have hf := find_class (od := od) C
  obtain ⟨hp, gn, dn, tk, os⟩ := s
  have ty := I.type (M := model prog w)
  have l1 := looks_findIn (M := model prog w) X C.hg
  have l2 := looks_findIn (M := model prog w) X C.hk
  have l3 := looks_find (M := model prog w) X I hf
  have isE : Looks (model prog w) hp (isInstance (.ref x) (.type "BaseException")) true := by
    exact ty.andThen (looks_subIn X C.hs)
  have n0 : (false && onTheHeap (.builtin "BaseException.__getattribute__" : Value)) = false := rfl
  have n2 : ((.builtin "BaseException.__getattribute__" : Value) == .builtin "object.__getattribute__") = false := by
    decide +kernel
  have n1 : (onTheHeap (.ref D : Value) && (.builtin "BaseException.__getattribute__" : Value) == .builtin "object.__getattribute__") = false := by
    rw [n2]
    rfl
  unfold getAttr? getAttrBy? getAttrBy
  refine wpAny_bind (wpAny_mkText ?_)
  refine wpAny_bind (wpAny_attempt ?_)
  refine wpAny_holding (wpAny_bind ?_)
  refine ty.at (wpAny_bind (l1.at ?_))
  show wpAny _ _ (if (onTheHeap (.ref D : Value) && (.builtin "BaseException.__getattribute__" : Value) == .builtin "object.__getattribute__") = true
    then _ else _) _ _ _
  rw [n1]
  rw [if_neg Bool.false_ne_true]
  unfold getAttrByItsOwn hookBefore
  refine wpAny_bind ?_
  have on : onTheHeap (.ref D : Value) = true := rfl
  rw [if_pos on]
  refine l2.at ?_
  refine wpAny_bind (wpAny_attempt ?_)
  refine wpAny_holding ?_
  unfold callGetattribute
  rw [n0]
  rw [if_neg Bool.false_ne_true]
  unfold boundAndCalled
  rw [PySem.F.excAttr_ValueError.ga.bind (.ref x)]
  refine wpAny_bind (wpAny_pure ?_)
  show wpAny _ _ (call (.builtin "BaseException.__getattribute__")
    [.ref x, .str "__class__" tk]) _ _ _
  refine wpAny_call ?_
  refine codeAny_call_builtin PySem.F.excAttr_ValueError.ga.plain
    PySem.F.entry_bexc_ga ?_
  refine @check_slot (model prog w) _ _ ⟨hp, gn, dn, tk + 1, os⟩
    "BaseException.__getattribute__" "BaseException"
    "__getattribute__" (.ref x) [.str "__class__" tk] [] _
    (by decide +kernel) (by decide +kernel) isE
    (PySem.F.args_bexc_ga (.ref x) (.str "__class__" tk)) ?_
  unfold Builtin.«object.__getattribute__»
  refine wpAny_bind ?_
  refine wpAny_of_eq (a := ((Value.ref x : Value), [Value.str "__class__" tk])) ?e1 ?_
  case e1 =>
    first
      | rfl
      | (simp only [slotArgs]; rfl)
  refine wpAny_bind (wpAny_pure ?_)
  refine wpAny_bind (ty.at ?_)
  refine wpAny_bind (l3.at ?_)
  show wpAny _ _ (holding [Value.builtin "object.__class__"]
    (call (.builtin "getset_descriptor.__get__") [.builtin "object.__class__", .ref x, .ref D]) >>= ret) _ _ _
  refine wpAny_bind (wpAny_holding ?_)
  refine wpAny_call (class_get (s := ⟨hp, gn, dn, tk + 1, os⟩) (ox := ox) (od := od) X I C.hm ?_)
  refine wpAny_pure ?_
  show wpAny _ _ (handedOut (.ref D)) _ _ _
  rw [handedOut_of (v := .ref D) rfl]
  first
    | exact wpAny_pure (wpAny_pure h)
    | exact wpAny_pure h
    | exact wpAny_pure (wpAny_bind (wpAny_pure (wpAny_pure h)))
theorem kit_pinned (C : L2.ExcC K D) : KitX K (.ref x) (.ref D) (fun h => PySem.W.InstAt h x ox D od) where
  ty := fun _ _ _ I => I.type
  it := by
    intro M h X _
    obtain ⟨cd, hcd, _⟩ := any_some C.hd
    unfold clsIn at hcd
    split at hcd
    case h_2 => cases hcd
    rename_i ho
    intro A1 Q1 E1 s1 k1 q1
    unfold isType loadHead
    have there := k1 _ _ (X _ _ ho)
    exact wpAny_bind (wpAny_loadPart there (wpAny_pure q1))
  ne := fun h tp dd its n sl X htp => (handS_kitx_exc (x := x) (ox := ox) C.hg C.hk C.hs C.hd C.ha C.hn C.ht C.hm).ne h tp dd its n sl X htp
  ca := fun X I k => class_of C X I k
end
section
open L2
/-- isinstance(e, c), e pinned -/
def rIsP (K : PySem.W.Frag) (a : Addr) (cls : Value) (d : Option Addr) : List V → Hp → VK → Prop := fun xs H Q => ∃ (c : V) (cv : Value) (D : Addr) (b : Bool), xs = [.ref a, c] ∧ cls = .ref D ∧ (∀ u, RelV c u → u = cv) ∧ L2.ExcC K D ∧ (∀ dd, d = some dd → ∃ fs, H dd = some (.xd fs)) ∧
  PySem.W.kitOne K (.ref D) cv = some b ∧ Q (.bl b) H
theorem call_isP {X : Cx} {a : Addr} {oe : Obj} {cls : Value} {d : Option Addr} {pn : List (Addr × Obj)} {xe : Value → Shared → Prop} (hz : Zc cls d oe) (hf : ∃ vs, oe.data = .fields vs) : CallR (X.tr ((a, oe) :: pn) xe) (.builtin "isinstance") (rIsP X.K a cls d) := by
  intro pins s σ H xs us Q I r h
  obtain ⟨c, cv, D, b, rfl, rfl, hcv, C, hd, e, q⟩ := h
  obtain ⟨u1, u2, rfl, r1, r2⟩ := vals2 r
  obtain rfl : u1 = Value.ref a := r1
  obtain rfl := hcv _ r2
  have pin := I.pin (a, oe) (List.mem_append_left _ List.mem_cons_self)
  obtain ⟨vs, hv⟩ := hf
  have J : ∃ od, PySem.W.InstAt s.heap a oe D od := by
    cases d with
    | none =>
      refine ⟨none, pin.1, hz.1, ?_, ?_⟩
      · unfold PySem.W.notCls
        rw [hv]
      · rw [hz.2]
        trivial
    | some dd =>
      obtain ⟨fs, hx⟩ := hd dd rfl
      have ox : ObjOk X.prog X.w H s.heap dd (.xd fs) := I.hok dd _ hx
      obtain ⟨mA, hns, _⟩ := ox
      obtain ⟨od, ho, _⟩ := lookIn_ns hns
      refine ⟨some od, pin.1, hz.1, ?_, ?_⟩
      · unfold PySem.W.notCls
        rw [hv]
      · rw [hz.2]
        exact ho
  obtain ⟨od, J⟩ := J
  exact PySem.W.kia_one (kit_pinned C) I.kIn J e (fun z => nomatch z) fun tk => ⟨.bl b, H, I.kept (t' := tk) fun _ _ z => z, rfl, q⟩
/-- e.n, e pinned -/
theorem pe_xp {X : Cx} {a C : Addr} {oe : Obj} {cls : Value} {d : Option Addr} {pn : List (Addr × Obj)} {xe : Value → Shared → Prop} {e : Expr} {te : TE} {pos : Pos} {n : Str} (T : XfC X.K C) (hno : PySem.W.findIn X.K (.ref C) n = some none)
    (hz : Zc cls d oe) (hf : ∃ vs, oe.data = .fields vs) (he : PE (X.tr ((a, oe) :: pn) xe) e te) (hb : attributeBase e n X.env (eval e X.env) = eval e X.env := by rfl) :
    PE (X.tr ((a, oe) :: pn) xe) (.Attribute e n pos) (tXf a cls d C n te) := by
  constructor
  intro pins s σ H Q I h
  refine attr_of hb (thn (he.run pins s σ H _ I h) ?_)
  rintro u s1 ⟨x, H1, I1, rx, rfl, rfl, dd, fs, v, rfl, ea, l, q⟩
  obtain rfl : u = Value.ref a := rx
  have pin := I1.pin (a, oe) (List.mem_append_left _ List.mem_cons_self)
  obtain ⟨vs, hv⟩ := hf
  have ox : ObjOk X.prog X.w H1 s1.heap dd (.xd fs) := I1.hok dd _ ea
  obtain ⟨mA, hns, hr⟩ := ox
  obtain ⟨od, ho, hl⟩ := lookIn_ns hns
  obtain ⟨u, hu, ru⟩ := RelO.some_of (v := v) (o := mA n) (by rw [← l]; exact hr n)
  have J : PySem.W.InstAt s1.heap a oe C (some od) := by
    refine ⟨pin.1, hz.1, ?_, ?_⟩
    · unfold PySem.W.notCls
      rw [hv]
    · rw [hz.2]
      exact ho
  have own := PySem.W.findObj_own T.hdC hno rfl (show PySem.W.lookIn n od = some (some u) by rw [hl, hu])
  exact HandSPX.exc_get I1.kIn J T.ga T.gg T.exC own (handed_of ru) ⟨v, H1, I1.tok _, ru, q⟩
end
end NV
/-! Res -/
set_option Elab.async false
set_option linter.all false
set_option maxRecDepth 100000
set_option maxHeartbeats 1000000
/-! the law's _law_result: what it makes of a lambda's value, of its error -/
namespace NV
open PySem PySem.Spec PyProof.Rows L2
open C8 (pss_cut pe_gc)
abbrev sLawResult : Stmt := topS 57
theorem scLawResult : FnScope ["work", "e", "marks", "error", "result"] ["work"] (defScope sLawResult) := ⟨rfl, rfl, rfl, by decide +kernel, rfl, by decide +kernel, by decide +kernel⟩
/-- where the classes of errors stand -/
structure ErrAt where
  top : Addr
  id : Addr
  cell : Addr
  sld : Addr
  dup : Addr
  log : Addr
  bud : Addr
  cmp : Addr
def ErrAt.no (A : ErrAt) : Nat → Addr
  | 0 => A.id
  | 1 => A.cell
  | 2 => A.sld
  | 3 => A.dup
  | 4 => A.log
  | 5 => A.bud
  | _ => A.cmp
structure ErrTop (mg : Str → Option Value) (A : ErrAt) : Prop where
  top : mg "LogError" = some (.ref A.top)
  id : mg "UnknownId" = some (.ref A.id)
  cell : mg "UnknownCell" = some (.ref A.cell)
  sld : mg "SealedWrite" = some (.ref A.sld)
  dup : mg "DuplicateId" = some (.ref A.dup)
  log : mg "InvalidLog" = some (.ref A.log)
  bud : mg "InvalidBudget" = some (.ref A.bud)
  cmp : mg "NotCompact" = some (.ref A.cmp)
/-- what is known of the class number i -/
structure ErrCls (K : PySem.W.Frag) (A : ErrAt) (i : Nat) : Prop where
  x : L2.ExcC K (A.no i)
  c : PySem.W.exmOne K (.ref (A.no i)) (.ref A.top) = some true
  is : ∀ j, j < 7 → PySem.W.kitOne K (.ref (A.no i)) (.ref (A.no j)) = some (decide (i = j))
  v : PySem.W.kitOne K (.ref (A.no i)) (.type "ValueError") = some true
/-- the attribute f of the class number i -/
structure ErrFld (K : PySem.W.Frag) (A : ErrAt) (i : Nat) (f : Str) : Prop where
  x : L2.XfC K (A.no i)
  no : PySem.W.findIn K (.ref (A.no i)) f = some none
def resW : Nat → Str
  | 0 => "id"
  | 1 => "cell"
  | 2 => "sealed"
  | 3 => "duplicate"
  | 4 => "log"
  | 5 => "budget"
  | _ => "compact"
def resF : Nat → Str
  | 1 => "cell"
  | _ => "entry_id"
/-- what is made of an error -/
def resE (K : PySem.W.Frag) (A : ErrAt) (Q : VK) : XK := fun cls d H => ∃ (i : Nat) (v : V), i < 7 ∧ cls = .ref (A.no i) ∧ ErrCls K A i ∧ (∀ dd, d = some dd → ∃ fs, H dd = some (.xd fs)) ∧
  (i < 4 → ∃ dd fs, d = some dd ∧ H dd = some (.xd fs) ∧ fs.lookup (resF i) = some v) ∧ (4 ≤ i → v = .bl true) ∧ ∀ p H', Kp [] H H' → H' p = some (.tup [.str (resW i), v]) → Q (.ref p) H'
def TRes (K : PySem.W.Frag) (A : ErrAt) : (XK → Hp → VK → Prop) → Hp → VK → Prop := fun tl H Q => ∀ H0, Kp [] H H0 → tl (resE K A Q) H0 fun v H' => ∀ p H2, Kp [] H' H2 → H2 p = some (.tup [.str "value", v]) → Q (.ref p) H2
theorem mtIndexE {X : Cx} (K : PySem.W.Frag) (h : X.K = K := by rfl) : MtR X "list.index" (rIndex K) := by
  rw [← h]; exact mt_index
theorem takes_len {X : Cx} {W : WX} {n : Nat} (tk : Takes X W) (hn : X.N.length = n) : Takes X (fun cls d σ H => σ.length = n → W cls d σ H) := fun u s' ⟨a, B, sI, pins, σ, H, cls, d, e, I, nb, up, sky, na, os, ag, w⟩ =>
  tk u s' ⟨a, B, sI, pins, σ, H, cls, d, e, I, nb, up, sky, na, os, ag, w (by rw [I.len]; exact hn)⟩
theorem pe_mono {X : Cx} {e : Expr} {te : TE} (h : PE X e te) : PE X e (fun σ H Q => ∃ Q0 : VK, (∀ v H', Q0 v H' → Q v H') ∧ te σ H Q0) :=
  ⟨fun pins s σ H Q I ⟨Q0, m, h0⟩ => thn (h.run pins s σ H Q0 I h0) fun u s' ⟨v, H', I', r, q⟩ => ⟨v, H', I', r, m v H' q⟩⟩
section
variable {X : Cx}
theorem result_gives {g : Addr} {cdg : Value} {q : Str} {A : ErrAt} (T : ErrTop X.mg A) (b_isinstance : X.mg "isinstance" = none) (b_ValueError : X.mg "ValueError" = none)
    (f0 : ErrFld X.K A 0 "entry_id") (f1 : ErrFld X.K A 1 "cell") (f2 : ErrFld X.K A 2 "entry_id") (f3 : ErrFld X.K A 3 "entry_id") :
    LamX.GivesTo X ["work", "e", "marks", "error", "result"] "_law_result" (defScope sLawResult) g cdg (defBody sLawResult) "work" q (TRes X.K A) := by
  intro f c' s H Q tl act hc h
  refine ⟨_, pss_cons (ps_asg (pe_tup (pa_cons pe_non (pa_cons pe_non pa_nil))) (pg_tupE X.K (by rfl) (pgs_cons (pg_name (i := 3) scLawResult.nd rfl (.inl rfl)) (pgs_cons (pg_name (i := 4) scLawResult.nd rfl (.inl rfl)) pgs_nil))))
    (pss_keep (i := 1) (n := "e") (c := .ref A.top) (tb := fun W D σ H => ∃ (Ech : XK) (Q0 : VK), (∀ cls d σ' H', Ech cls d H' → σ'.length = 5 → W cls d σ' H') ∧ (∀ v H1, Q0 v H1 → D.nx (σ.set 4 (some v)) H1) ∧ σ[0]? = some (some (.ref f)) ∧ H c' = some (LamX.CodeO c' q) ∧ tl Ech H Q0)
      rfl rfl scLawResult.nd rfl rfl ⟨rfl, rfl, .inl T.top⟩ LamX.takes0 (fun W pn xe tk _ => ?body)
      (fun a oe cls d pn _ _ => pss_one (ps_set (i := 3) scLawResult.nd rfl (.inl rfl) (pv 1)))
      (pss_cons (ps_if (pt_cmpR op_isN (pv 3) pe_non (nomark _)) (pss_one (ps_ret (pe_tup (pa_cons pe_str (pa_cons (pv 4) pa_nil))))) pss_nil) (pss_dead _))
      (fun a oe cls d pn hz hf =>
        (pss_cons (ps_if (pt_cmpR op_isN (pv 3) pe_non (nomark _)) (pss_dead _) pss_nil)
        (pss_cons (ps_if (pt_val (pe_callB (call_isP hz hf) (by rfl) b_isinstance (by decide +kernel) (pa_cons (pv 3) (pa_cons (pe_glob (v := .ref A.id) rfl T.id rfl) pa_nil)))) (pss_one (ps_ret (pe_tup (pa_cons pe_str (pa_cons (pe_xp f0.x f0.no hz hf (pv 3)) pa_nil))))) pss_nil)
        (pss_cons (ps_if (pt_val (pe_callB (call_isP hz hf) (by rfl) b_isinstance (by decide +kernel) (pa_cons (pv 3) (pa_cons (pe_glob (v := .ref A.cell) rfl T.cell rfl) pa_nil)))) (pss_one (ps_ret (pe_tup (pa_cons pe_str (pa_cons (pe_xp f1.x f1.no hz hf (pv 3)) pa_nil))))) pss_nil)
        (pss_cons (ps_if (pt_val (pe_callB (call_isP hz hf) (by rfl) b_isinstance (by decide +kernel) (pa_cons (pv 3) (pa_cons (pe_glob (v := .ref A.sld) rfl T.sld rfl) pa_nil)))) (pss_one (ps_ret (pe_tup (pa_cons pe_str (pa_cons (pe_xp f2.x f2.no hz hf (pv 3)) pa_nil))))) pss_nil)
        (pss_cons (ps_if (pt_val (pe_callB (call_isP hz hf) (by rfl) b_isinstance (by decide +kernel) (pa_cons (pv 3) (pa_cons (pe_glob (v := .ref A.dup) rfl T.dup rfl) pa_nil)))) (pss_one (ps_ret (pe_tup (pa_cons pe_str (pa_cons (pe_xp f3.x f3.no hz hf (pv 3)) pa_nil))))) pss_nil)
        (pss_cons (ps_set (i := 2) scLawResult.nd rfl (.inl rfl) (pe_lst (pa_cons (pe_callB (call_isP hz hf) (by rfl) b_isinstance (by decide +kernel) (pa_cons (pv 3) (pa_cons (pe_glob (v := .ref A.log) rfl T.log rfl) pa_nil)))
            (pa_cons (pe_callB (call_isP hz hf) (by rfl) b_isinstance (by decide +kernel) (pa_cons (pv 3) (pa_cons (pe_glob (v := .ref A.bud) rfl T.bud rfl) pa_nil)))
            (pa_cons (pe_callB (call_isP hz hf) (by rfl) b_isinstance (by decide +kernel) (pa_cons (pv 3) (pa_cons (pe_glob (v := .ref A.cmp) rfl T.cmp rfl) pa_nil))) pa_nil)))))
        (pss_one (ps_ret (pe_tup (pa_cons (pe_ix (ixlE X.K) (pe_lst (pa_cons pe_str (pa_cons pe_str (pa_cons pe_str (pa_cons pe_str pa_nil)))))
            (bmE X.K PySem.F.plainAttrs_list PySem.F.slot_list_index PySem.F.type_list_index (mtIndexE X.K) (pe_op op_cat (pv 2) (pe_lst (pa_cons pe_bl pa_nil))) (pa_cons pe_bl pa_nil)) (fun _ _ => rfl))
          (pa_cons (pe_callB (call_isP hz hf) (by rfl) b_isinstance (by decide +kernel) (pa_cons (pv 3) (pa_cons (pe_bltn (v := .ty "ValueError") rfl b_ValueError (by rfl) rfl) pa_nil))) pa_nil))))))))))))), ?_⟩
  case body =>
    refine ⟨fun pins s' σ H' D I h' => ?_⟩
    obtain ⟨Ech, Q0, hW, hm, h1, h2, h3⟩ := h'
    refine PSs.run (pss_one (ps_set (i := 4) scLawResult.nd rfl (.inl rfl) (pe_mono (act _ pn xe Ech _ _ (takes_len tk rfl) hW)))) pins s' σ H' D I ?_
    exact ⟨Q0, hm, h1, h2, h3⟩
  refine ⟨?one, fun T0 nT0 => ?_⟩
  case one => exact (by decide : 2 ≤ sizeLine)
  refine ⟨T0, _, rfl, .inl (.inl upd_same), rfl, _, _, rfl, _, _, rfl, rfl, ?_⟩
  have k0 : Kp [] H (upd H T0 (.tup [V.non, V.non])) := Kp.laid nT0
  refine ⟨_, _, ?err, ?val, rfl, k0 _ _ (by simp) hc, h _ k0⟩
  case val =>
    intro v H1 hv
    refine ⟨_, rfl, rfl, true, by rw [decide_eq_true rfl], iteT ?_⟩
    exact ⟨_, rfl, (by decide : 2 ≤ sizeLine), fun p np => hv p _ (Kp.laid np) upd_same⟩
  case err =>
    intro cls d σ' H' hE h5
    obtain ⟨i, v, hi, rfl, C, hd, hat, hb, hq⟩ := hE
    refine ⟨true, C.c, (fun z => by cases z), fun _ a na => ?_⟩
    match σ', h5 with
    | [x0, x1, x2, x3, x4], _ =>
      refine ⟨_, rfl, _, rfl, rfl, false, by rw [decide_eq_false (fun z => nomatch z)], iteF ?_⟩
      match i, hi with
      | 0, _ =>
        refine ⟨_, rfl, .ref (A.no 0), .ref (A.no 0), A.no 0, _, rfl, rfl, (fun u r => r), C.x, hd, C.is 0 (by decide), _, rfl, iteT ?_⟩
        obtain ⟨dd, fs, rfl, hx, hl⟩ := hat (by decide)
        refine ⟨_, rfl, rfl, rfl, dd, fs, v, rfl, hx, hl, (by decide : 2 ≤ sizeLine), fun p np => hq p _ (Kp.laid np) upd_same⟩
      | 1, _ =>
        refine ⟨_, rfl, .ref (A.no 0), .ref (A.no 0), A.no 1, _, rfl, rfl, (fun u r => r), C.x, hd, C.is 0 (by decide), _, rfl, iteF ?_⟩
        refine ⟨_, rfl, .ref (A.no 1), .ref (A.no 1), A.no 1, _, rfl, rfl, (fun u r => r), C.x, hd, C.is 1 (by decide), _, rfl, iteT ?_⟩
        obtain ⟨dd, fs, rfl, hx, hl⟩ := hat (by decide)
        refine ⟨_, rfl, rfl, rfl, dd, fs, v, rfl, hx, hl, (by decide : 2 ≤ sizeLine), fun p np => hq p _ (Kp.laid np) upd_same⟩
      | 2, _ =>
        refine ⟨_, rfl, .ref (A.no 0), .ref (A.no 0), A.no 2, _, rfl, rfl, (fun u r => r), C.x, hd, C.is 0 (by decide), _, rfl, iteF ?_⟩
        refine ⟨_, rfl, .ref (A.no 1), .ref (A.no 1), A.no 2, _, rfl, rfl, (fun u r => r), C.x, hd, C.is 1 (by decide), _, rfl, iteF ?_⟩
        refine ⟨_, rfl, .ref (A.no 2), .ref (A.no 2), A.no 2, _, rfl, rfl, (fun u r => r), C.x, hd, C.is 2 (by decide), _, rfl, iteT ?_⟩
        obtain ⟨dd, fs, rfl, hx, hl⟩ := hat (by decide)
        refine ⟨_, rfl, rfl, rfl, dd, fs, v, rfl, hx, hl, (by decide : 2 ≤ sizeLine), fun p np => hq p _ (Kp.laid np) upd_same⟩
      | 3, _ =>
        refine ⟨_, rfl, .ref (A.no 0), .ref (A.no 0), A.no 3, _, rfl, rfl, (fun u r => r), C.x, hd, C.is 0 (by decide), _, rfl, iteF ?_⟩
        refine ⟨_, rfl, .ref (A.no 1), .ref (A.no 1), A.no 3, _, rfl, rfl, (fun u r => r), C.x, hd, C.is 1 (by decide), _, rfl, iteF ?_⟩
        refine ⟨_, rfl, .ref (A.no 2), .ref (A.no 2), A.no 3, _, rfl, rfl, (fun u r => r), C.x, hd, C.is 2 (by decide), _, rfl, iteF ?_⟩
        refine ⟨_, rfl, .ref (A.no 3), .ref (A.no 3), A.no 3, _, rfl, rfl, (fun u r => r), C.x, hd, C.is 3 (by decide), _, rfl, iteT ?_⟩
        obtain ⟨dd, fs, rfl, hx, hl⟩ := hat (by decide)
        refine ⟨_, rfl, rfl, rfl, dd, fs, v, rfl, hx, hl, (by decide : 2 ≤ sizeLine), fun p np => hq p _ (Kp.laid np) upd_same⟩
      | 4, _ =>
        refine ⟨_, rfl, .ref (A.no 0), .ref (A.no 0), A.no 4, _, rfl, rfl, (fun u r => r), C.x, hd, C.is 0 (by decide), _, rfl, iteF ?_⟩
        refine ⟨_, rfl, .ref (A.no 1), .ref (A.no 1), A.no 4, _, rfl, rfl, (fun u r => r), C.x, hd, C.is 1 (by decide), _, rfl, iteF ?_⟩
        refine ⟨_, rfl, .ref (A.no 2), .ref (A.no 2), A.no 4, _, rfl, rfl, (fun u r => r), C.x, hd, C.is 2 (by decide), _, rfl, iteF ?_⟩
        refine ⟨_, rfl, .ref (A.no 3), .ref (A.no 3), A.no 4, _, rfl, rfl, (fun u r => r), C.x, hd, C.is 3 (by decide), _, rfl, iteF ?_⟩
        refine ⟨_, rfl, .ref (A.no 4), .ref (A.no 4), A.no 4, _, rfl, rfl, (fun u r => r), C.x, hd, C.is 4 (by decide), ?_⟩
        refine ⟨_, rfl, .ref (A.no 5), .ref (A.no 5), A.no 4, _, rfl, rfl, (fun u r => r), C.x, hd, C.is 5 (by decide), ?_⟩
        refine ⟨_, rfl, .ref (A.no 6), .ref (A.no 6), A.no 4, _, rfl, rfl, (fun u r => r), C.x, hd, C.is 6 (by decide), ?_⟩
        obtain rfl := hb (by decide)
        refine ⟨(by decide : 3 ≤ sizeLine), fun l nl => ?_⟩
        refine ⟨(by decide : 4 ≤ sizeLine), fun l2 nl2 => ?_⟩
        refine ⟨_, rfl, (by decide : 1 ≤ sizeLine), fun l3 nl3 => ?_⟩
        have k1 : Kp [] H' (upd H' l (.lst [V.bl (decide (4 = 4)), V.bl (decide (4 = 5)), V.bl (decide (4 = 6))])) := Kp.laid nl
        have k2 : Kp [] (upd H' l (.lst [V.bl (decide (4 = 4)), V.bl (decide (4 = 5)), V.bl (decide (4 = 6))])) (upd (upd H' l (.lst [V.bl (decide (4 = 4)), V.bl (decide (4 = 5)), V.bl (decide (4 = 6))])) l2 (.lst [V.str "log", V.str "budget", V.str "compact", V.str "other"])) := Kp.laid nl2
        have k3 : Kp [] (upd (upd H' l (.lst [V.bl (decide (4 = 4)), V.bl (decide (4 = 5)), V.bl (decide (4 = 6))])) l2 (.lst [V.str "log", V.str "budget", V.str "compact", V.str "other"])) (upd (upd (upd H' l (.lst [V.bl (decide (4 = 4)), V.bl (decide (4 = 5)), V.bl (decide (4 = 6))])) l2 (.lst [V.str "log", V.str "budget", V.str "compact", V.str "other"])) l3 (.lst [V.bl true])) := Kp.laid nl3
        have e1 := k3 _ _ (by simp) (k2 _ _ (by simp) (upd_same (H := H') (a := l) (o := .lst [V.bl (decide (4 = 4)), V.bl (decide (4 = 5)), V.bl (decide (4 = 6))])))
        refine ⟨l, l3, _, _, rfl, rfl, e1, upd_same, (by decide : 4 ≤ sizeLine), fun p4 n4 => ?_⟩
        have k4 := (k1.trans (k2.trans k3)).trans (Kp.laid (ex := []) (o := .lst ([V.bl (decide (4 = 4)), V.bl (decide (4 = 5)), V.bl (decide (4 = 6))] ++ [V.bl true])) n4)
        have e2 := (Kp.laid (ex := []) (o := .lst ([V.bl (decide (4 = 4)), V.bl (decide (4 = 5)), V.bl (decide (4 = 6))] ++ [V.bl true])) n4) _ _ (by simp) (k3 _ _ (by simp) (upd_same (H := upd H' l (.lst [V.bl (decide (4 = 4)), V.bl (decide (4 = 5)), V.bl (decide (4 = 6))])) (a := l2) (o := .lst [V.str "log", V.str "budget", V.str "compact", V.str "other"])))
        refine ⟨.inl ⟨rfl, _, SqL.of upd_same⟩, p4, _, .bl true, 0, .bl true, rfl, rfl, SqL.of upd_same, rfl, rfl, rfl, rfl, ?_, l2, _, 0, .str "log", rfl, rfl, SqL.of e2, rfl, ?_⟩
        · exact fun m z hm hz => absurd hm (by omega)
        refine ⟨_, rfl, .ty "ValueError", .type "ValueError", A.no 4, true, rfl, rfl, (fun u r => r), C.x, (fun dd e => ?_), C.v, (by decide : 2 ≤ sizeLine), fun p np => hq p _ (k4.trans (Kp.laid np)) upd_same⟩
        obtain ⟨fs, hx⟩ := hd dd e
        exact ⟨fs, k4 _ _ (by simp) hx⟩
      | 5, _ =>
        refine ⟨_, rfl, .ref (A.no 0), .ref (A.no 0), A.no 5, _, rfl, rfl, (fun u r => r), C.x, hd, C.is 0 (by decide), _, rfl, iteF ?_⟩
        refine ⟨_, rfl, .ref (A.no 1), .ref (A.no 1), A.no 5, _, rfl, rfl, (fun u r => r), C.x, hd, C.is 1 (by decide), _, rfl, iteF ?_⟩
        refine ⟨_, rfl, .ref (A.no 2), .ref (A.no 2), A.no 5, _, rfl, rfl, (fun u r => r), C.x, hd, C.is 2 (by decide), _, rfl, iteF ?_⟩
        refine ⟨_, rfl, .ref (A.no 3), .ref (A.no 3), A.no 5, _, rfl, rfl, (fun u r => r), C.x, hd, C.is 3 (by decide), _, rfl, iteF ?_⟩
        refine ⟨_, rfl, .ref (A.no 4), .ref (A.no 4), A.no 5, _, rfl, rfl, (fun u r => r), C.x, hd, C.is 4 (by decide), ?_⟩
        refine ⟨_, rfl, .ref (A.no 5), .ref (A.no 5), A.no 5, _, rfl, rfl, (fun u r => r), C.x, hd, C.is 5 (by decide), ?_⟩
        refine ⟨_, rfl, .ref (A.no 6), .ref (A.no 6), A.no 5, _, rfl, rfl, (fun u r => r), C.x, hd, C.is 6 (by decide), ?_⟩
        obtain rfl := hb (by decide)
        refine ⟨(by decide : 3 ≤ sizeLine), fun l nl => ?_⟩
        refine ⟨(by decide : 4 ≤ sizeLine), fun l2 nl2 => ?_⟩
        refine ⟨_, rfl, (by decide : 1 ≤ sizeLine), fun l3 nl3 => ?_⟩
        have k1 : Kp [] H' (upd H' l (.lst [V.bl (decide (5 = 4)), V.bl (decide (5 = 5)), V.bl (decide (5 = 6))])) := Kp.laid nl
        have k2 : Kp [] (upd H' l (.lst [V.bl (decide (5 = 4)), V.bl (decide (5 = 5)), V.bl (decide (5 = 6))])) (upd (upd H' l (.lst [V.bl (decide (5 = 4)), V.bl (decide (5 = 5)), V.bl (decide (5 = 6))])) l2 (.lst [V.str "log", V.str "budget", V.str "compact", V.str "other"])) := Kp.laid nl2
        have k3 : Kp [] (upd (upd H' l (.lst [V.bl (decide (5 = 4)), V.bl (decide (5 = 5)), V.bl (decide (5 = 6))])) l2 (.lst [V.str "log", V.str "budget", V.str "compact", V.str "other"])) (upd (upd (upd H' l (.lst [V.bl (decide (5 = 4)), V.bl (decide (5 = 5)), V.bl (decide (5 = 6))])) l2 (.lst [V.str "log", V.str "budget", V.str "compact", V.str "other"])) l3 (.lst [V.bl true])) := Kp.laid nl3
        have e1 := k3 _ _ (by simp) (k2 _ _ (by simp) (upd_same (H := H') (a := l) (o := .lst [V.bl (decide (5 = 4)), V.bl (decide (5 = 5)), V.bl (decide (5 = 6))])))
        refine ⟨l, l3, _, _, rfl, rfl, e1, upd_same, (by decide : 4 ≤ sizeLine), fun p4 n4 => ?_⟩
        have k4 := (k1.trans (k2.trans k3)).trans (Kp.laid (ex := []) (o := .lst ([V.bl (decide (5 = 4)), V.bl (decide (5 = 5)), V.bl (decide (5 = 6))] ++ [V.bl true])) n4)
        have e2 := (Kp.laid (ex := []) (o := .lst ([V.bl (decide (5 = 4)), V.bl (decide (5 = 5)), V.bl (decide (5 = 6))] ++ [V.bl true])) n4) _ _ (by simp) (k3 _ _ (by simp) (upd_same (H := upd H' l (.lst [V.bl (decide (5 = 4)), V.bl (decide (5 = 5)), V.bl (decide (5 = 6))])) (a := l2) (o := .lst [V.str "log", V.str "budget", V.str "compact", V.str "other"])))
        refine ⟨.inl ⟨rfl, _, SqL.of upd_same⟩, p4, _, .bl true, 1, .bl true, rfl, rfl, SqL.of upd_same, rfl, rfl, rfl, rfl, ?_, l2, _, 1, .str "budget", rfl, rfl, SqL.of e2, rfl, ?_⟩
        · exact fun m z hm hz => match m, hm, hz with
          | 0, _, hz => by obtain rfl := Option.some.inj hz; rfl
        refine ⟨_, rfl, .ty "ValueError", .type "ValueError", A.no 5, true, rfl, rfl, (fun u r => r), C.x, (fun dd e => ?_), C.v, (by decide : 2 ≤ sizeLine), fun p np => hq p _ (k4.trans (Kp.laid np)) upd_same⟩
        obtain ⟨fs, hx⟩ := hd dd e
        exact ⟨fs, k4 _ _ (by simp) hx⟩
      | 6, _ =>
        refine ⟨_, rfl, .ref (A.no 0), .ref (A.no 0), A.no 6, _, rfl, rfl, (fun u r => r), C.x, hd, C.is 0 (by decide), _, rfl, iteF ?_⟩
        refine ⟨_, rfl, .ref (A.no 1), .ref (A.no 1), A.no 6, _, rfl, rfl, (fun u r => r), C.x, hd, C.is 1 (by decide), _, rfl, iteF ?_⟩
        refine ⟨_, rfl, .ref (A.no 2), .ref (A.no 2), A.no 6, _, rfl, rfl, (fun u r => r), C.x, hd, C.is 2 (by decide), _, rfl, iteF ?_⟩
        refine ⟨_, rfl, .ref (A.no 3), .ref (A.no 3), A.no 6, _, rfl, rfl, (fun u r => r), C.x, hd, C.is 3 (by decide), _, rfl, iteF ?_⟩
        refine ⟨_, rfl, .ref (A.no 4), .ref (A.no 4), A.no 6, _, rfl, rfl, (fun u r => r), C.x, hd, C.is 4 (by decide), ?_⟩
        refine ⟨_, rfl, .ref (A.no 5), .ref (A.no 5), A.no 6, _, rfl, rfl, (fun u r => r), C.x, hd, C.is 5 (by decide), ?_⟩
        refine ⟨_, rfl, .ref (A.no 6), .ref (A.no 6), A.no 6, _, rfl, rfl, (fun u r => r), C.x, hd, C.is 6 (by decide), ?_⟩
        obtain rfl := hb (by decide)
        refine ⟨(by decide : 3 ≤ sizeLine), fun l nl => ?_⟩
        refine ⟨(by decide : 4 ≤ sizeLine), fun l2 nl2 => ?_⟩
        refine ⟨_, rfl, (by decide : 1 ≤ sizeLine), fun l3 nl3 => ?_⟩
        have k1 : Kp [] H' (upd H' l (.lst [V.bl (decide (6 = 4)), V.bl (decide (6 = 5)), V.bl (decide (6 = 6))])) := Kp.laid nl
        have k2 : Kp [] (upd H' l (.lst [V.bl (decide (6 = 4)), V.bl (decide (6 = 5)), V.bl (decide (6 = 6))])) (upd (upd H' l (.lst [V.bl (decide (6 = 4)), V.bl (decide (6 = 5)), V.bl (decide (6 = 6))])) l2 (.lst [V.str "log", V.str "budget", V.str "compact", V.str "other"])) := Kp.laid nl2
        have k3 : Kp [] (upd (upd H' l (.lst [V.bl (decide (6 = 4)), V.bl (decide (6 = 5)), V.bl (decide (6 = 6))])) l2 (.lst [V.str "log", V.str "budget", V.str "compact", V.str "other"])) (upd (upd (upd H' l (.lst [V.bl (decide (6 = 4)), V.bl (decide (6 = 5)), V.bl (decide (6 = 6))])) l2 (.lst [V.str "log", V.str "budget", V.str "compact", V.str "other"])) l3 (.lst [V.bl true])) := Kp.laid nl3
        have e1 := k3 _ _ (by simp) (k2 _ _ (by simp) (upd_same (H := H') (a := l) (o := .lst [V.bl (decide (6 = 4)), V.bl (decide (6 = 5)), V.bl (decide (6 = 6))])))
        refine ⟨l, l3, _, _, rfl, rfl, e1, upd_same, (by decide : 4 ≤ sizeLine), fun p4 n4 => ?_⟩
        have k4 := (k1.trans (k2.trans k3)).trans (Kp.laid (ex := []) (o := .lst ([V.bl (decide (6 = 4)), V.bl (decide (6 = 5)), V.bl (decide (6 = 6))] ++ [V.bl true])) n4)
        have e2 := (Kp.laid (ex := []) (o := .lst ([V.bl (decide (6 = 4)), V.bl (decide (6 = 5)), V.bl (decide (6 = 6))] ++ [V.bl true])) n4) _ _ (by simp) (k3 _ _ (by simp) (upd_same (H := upd H' l (.lst [V.bl (decide (6 = 4)), V.bl (decide (6 = 5)), V.bl (decide (6 = 6))])) (a := l2) (o := .lst [V.str "log", V.str "budget", V.str "compact", V.str "other"])))
        refine ⟨.inl ⟨rfl, _, SqL.of upd_same⟩, p4, _, .bl true, 2, .bl true, rfl, rfl, SqL.of upd_same, rfl, rfl, rfl, rfl, ?_, l2, _, 2, .str "compact", rfl, rfl, SqL.of e2, rfl, ?_⟩
        · exact fun m z hm hz => match m, hm, hz with
          | 0, _, hz => by obtain rfl := Option.some.inj hz; rfl
          | 1, _, hz => by obtain rfl := Option.some.inj hz; rfl
        refine ⟨_, rfl, .ty "ValueError", .type "ValueError", A.no 6, true, rfl, rfl, (fun u r => r), C.x, (fun dd e => ?_), C.v, (by decide : 2 ≤ sizeLine), fun p np => hq p _ (k4.trans (Kp.laid np)) upd_same⟩
        obtain ⟨fs, hx⟩ := hd dd e
        exact ⟨fs, k4 _ _ (by simp) hx⟩
end
end NV
/-! Lam -/
set_option Elab.async false
set_option linter.all false
set_option maxRecDepth 100000
set_option maxHeartbeats 1000000
/-! a lambda handed to _law_result, in a def of the top whose table of code objects is tracked -/
namespace NV
open PySem PySem.Spec PyProof.Rows L2
/-- the code object of a def of the top -/
structure CodeOf (K : PySem.W.Frag) (nm : Str) (st : Stmt) (f : Addr) (fd : FuncData) (c : Addr) : Prop where
  ex : ∃ (oc : Value) (od : Option Addr) (kV doc pm : Value) (an : Option Addr) (ct : Value) (osl : Array (Option Value)),
    fd = PySem.W.fnOf nm nm (defArgs st) (defBody st) (defScope st) .none kV doc pm an (.ref c) ct ∧ K.lookup f = some ⟨oc, od, .func fd, osl⟩ ∧ PySem.W.codeIn K (.ref c) nm = true
def AtC (K : PySem.W.Frag) (nm : Str) (st : Stmt) (c : Addr) : Prop := ∃ (f : Addr) (oc : Value) (od : Option Addr) (kV doc pm : Value) (an : Option Addr) (ct : Value) (sl : Array (Option Value)),
  PySem.W.nsIn K mainGlobals nm = some (some (.ref f)) ∧ K.lookup f = some ⟨oc, od, .func (PySem.W.fnOf nm nm (defArgs st) (defBody st) (defScope st) .none kV doc pm an (.ref c) ct), sl⟩ ∧ PySem.W.codeIn K (.ref c) nm = true ∧ PySem.W.keepIn K (.ref f) = true
section
variable {K : PySem.W.Frag} {h : Heap} {mg : Str → Option Value} {nm : Str} {st : Stmt} {c : Addr}
theorem atC_mk {f : Addr} {oc : Value} {od : Option Addr} {kV doc pm : Value} {an : Option Addr} {ct : Value} {sl : Array (Option Value)} (a : PySem.W.nsIn K mainGlobals nm = some (some (.ref f))) (l : K.lookup f = some ⟨oc, od, .func (PySem.W.fnOf nm nm (defArgs st) (defBody st) (defScope st) .none kV doc pm an (.ref c) ct), sl⟩)
    (d : PySem.W.codeIn K (.ref c) nm = true) (k : PySem.W.keepIn K (.ref f) = true) : AtC K nm st c := ⟨f, oc, od, kV, doc, pm, an, ct, sl, a, l, d, k⟩
theorem fnc_at {ps : List Str} (X : K.In h) (G : h.Ns mainGlobals mg) (a : AtC K nm st c)
    (hb : ∀ (kV doc pm : Value) (an : Option Addr) (cdv ct : Value) (us : List Value), us.length = ps.length → bindArgs (PySem.W.fnOf nm nm (defArgs st) (defBody st) (defScope st) .none kV doc pm an cdv ct) ⟨us, []⟩ = pure (ps.zip us)) : ∃ D : Fn K mg nm st ps, CodeOf K nm st D.f D.fd c := by
  obtain ⟨f, oc, od, kV, doc, pm, an, ct, sl, a1, l1, c1, k1⟩ := a
  have F := fun_mk (st := st) l1 c1 k1
  exact ⟨⟨f, _, F, PySem.W.mg_of X G a1, F.binds hb⟩, ⟨oc, od, kV, doc, pm, an, ct, sl, rfl, l1, c1⟩⟩
end
section
variable {P : Program} {w : World} {K : PySem.W.Frag} {mg : Str → Option Value} {base : Heap}
/-- okG, with the def's own code object -/
theorem okGC {x : Str} {st : Stmt} {f c : Addr} {fd : FuncData} {N ps : List Str} {k : Nat} {sp : Sp} (F : CodeOf K x st f fd c) (S : FnScope N ps (defScope st)) (len : ∀ vs H Q E, sp vs H Q E → vs.length = ps.length)
    (body : ∀ (A : Around) (outer : List Env) (s : Shared) (H : Hp) (vs : List V) (Q : VK) (E : XK), (A.deeper (envOfC x (defScope st) s.heap.objs.size f (.ref c))).guards = some [] → Room k (A.deeper (envOfC x (defScope st) s.heap.objs.size f (.ref c))) → sp vs H Q E →
      ∃ t, PSs (cxOf CX0 P w K mg base N x (defScope st) f (.ref c) A outer s H E).nox (defBody st) t ∧ t { nx := fun _ H' => Q .non H', rt := Q } (start N vs) H) : FnOkG P w K mg base CX0 (k + 1) f fd ps sp := by
  obtain ⟨oc, od, kV, doc, pm, an, ct, osl, rfl, lk, hcd⟩ := F.ex
  refine ⟨len, fun {A outer s H args us vs Q E} hg hr e0 hb rel hsp => ?_⟩
  have hl := len _ _ _ _ hsp
  have KX : K.In s.heap := e0.mod.kin.keeps fun b o e => (e0.bs b o e).1
  have lim : s.heap.NoLimit := e0.mod.nolimit.keeps fun b o e => (e0.bs b o e).1
  have named : ∀ y ∈ ps.zip us, (defScope st).names.lookup y.1 = some .local ∨ ((defScope st).names.lookup y.1 = some .cell ∧ ((cellsFrom (s.heap.objs.size + 1) (defScope st).names []).lookup y.1).isSome = true) := fun ⟨n, v⟩ hy =>
    (S.par n (List.of_mem_zip hy).1).elim .inl fun q => .inr ⟨q, PySem.W.cellsFrom_some _ _ _ (.inl q)⟩
  refine codeAny_call_function hr.depth (KX _ _ lk) rfl S.co S.gen rfl (PySem.W.codeRec_of KX hcd) (hb _ _ _ _ (wpAny_newFunctionEnv_cells S.kind named fun env he s1 x => ?_))
  subst he
  obtain ⟨t, ht, hq⟩ := body A outer s H vs Q E hg (hr.deeper _) hsp
  refine ⟨lim.keeps x.toInCall.keep, codeAny_func (wpAny_mono (ht.nox.run [] s1 (start N vs) H _ (inv_start S hr.hd e0 hl rel x) hq) (fun fl s' hs => ?_) fun e s' hs => hs)⟩
  match fl, hs with
  | .ret u, ⟨v, σ', H', J, rv, q⟩ => exact ⟨v, H', J.os, J.bare, J.base, J.hok, rv, q⟩
  | .next, ⟨σ', H', J, q⟩ => exact ⟨.non, H', J.os, J.bare, J.base, J.hok, rfl, q⟩
  | .brk, ⟨_, _, _, q⟩ => exact q.elim
  | .cont, ⟨_, _, _, q⟩ => exact q.elim
end
/-- the name of the code objects of the lambdas of the def nm -/
def lamQ (nm : Str) : Str := (nm ++ ".<locals>.") ++ "<lambda>"
/-- the table of nm's code objects, at P -/
def TabL (P : Addr) (nm : Str) (H : Hp) : Prop := LamX.TabS H P (lamQ nm)
theorem TabL.keep {P : Addr} {nm : Str} {H H' : Hp} (t : TabL P nm H) (k : Kp [] H H') : TabL P nm H' := t.ext fun b o e => k b o (by simp) e
theorem TabL.dr {P : Addr} {nm : Str} {D : Dr} {n : Nat} {H H' : Hp} (t : TabL P nm H) (d : DrAt D n H) (k : Kp D.ex H H') : TabL P nm H' := by
  obtain ⟨_, large, items, left, turn, h1, h2, _⟩ := d
  have no : ∀ b o, H b = some o → (∀ kv, o ≠ .dK kv) → (∀ xs, o ≠ .lst xs) → b ∉ D.ex := fun b o e n1 n2 z => by
    rcases List.mem_cons.mp z with z | z
    · rw [z, h1] at e; cases e; exact n1 _ rfl
    · rw [List.mem_singleton.mp z, h2] at e; cases e; exact n2 _ rfl
  obtain ⟨ps, t1, t2, t3⟩ := t
  refine ⟨ps, k _ _ (no _ _ t1 (fun _ z => by cases z) fun _ z => by cases z) t1, t2, fun pos cv e => ?_⟩
  obtain ⟨c, e1, e2⟩ := t3 pos cv e
  exact ⟨c, e1, k _ _ (no _ _ e2 (fun _ z => by unfold LamX.CodeO at z; cases z) fun _ z => by unfold LamX.CodeO at z; cases z) e2⟩
/-! ### what stays where a table grows -/
mutual
theorem Rp.extN {ex : List Addr} {H H' : Hp} (k : LamX.ExtN H H') : ∀ (d : PyData) (v : V), Rp ex H d v → Rp ex H' d v
  | .none, _, h => h
  | .bool _, _, h => h
  | .int _, _, h => h
  | .str _, _, h => h
  | .list ds, v, h => by
    obtain ⟨a, xs, e, na, h1, h2⟩ := h
    exact ⟨a, xs, e, na, k a _ h1 (fun _ z => by cases z), RpAll.extN k ds xs h2⟩
  | .tuple ds, v, h => by
    obtain ⟨a, xs, e, na, h1, h2⟩ := h
    exact ⟨a, xs, e, na, k a _ h1 (fun _ z => by cases z), RpAll.extN k ds xs h2⟩
  | .dict kvs, v, h => by
    obtain ⟨z, a, e, na, h1⟩ := h
    exact ⟨z, a, e, na, k a _ h1 (fun _ z => by cases z)⟩
theorem RpAll.extN {ex : List Addr} {H H' : Hp} (k : LamX.ExtN H H') : ∀ (ds : List PyData) (vs : List V), RpAll ex H ds vs → RpAll ex H' ds vs
  | [], _, h => h
  | d :: ds, vs, h => by
    obtain ⟨v, ws, e, h1, h2⟩ := h
    exact ⟨v, ws, e, Rp.extN k d v h1, RpAll.extN k ds ws h2⟩
end
theorem DrAt.extN {D : Dr} {n : Nat} {H H' : Hp} (h : DrAt D n H) (k : LamX.ExtN H H') : DrAt D n H' := by
  obtain ⟨h0, large, items, left, turn, h1, h2, h3, h4⟩ := h
  exact ⟨h0, large, items, left, turn, k _ _ h1 (fun _ z => by cases z), k _ _ h2 (fun _ z => by cases z), k _ _ h3 (fun _ z => by cases z), h4⟩
theorem seqL_extN {K : PySem.W.Frag} {a : Addr} {xs : List V} {H H' : Hp} (k : LamX.ExtN H H') (h : SqL K H a xs) : SqL K H' a xs := by
  rcases h with (h | ⟨o, h⟩) | h
  · exact .inl (.inl (k _ _ h (fun _ z => by cases z)))
  · exact .inl (.inr ⟨o, k _ _ h (fun _ z => by cases z)⟩)
  · exact .inr h
section
variable {X : Cx}
/-- what a lambda handed to _law_result is told -/
def tLamR (K : PySem.W.Frag) (A : ErrAt) (P : Addr) (nm : Str) (t : XK → TE) : TE := fun σ H Q => TabL P nm H ∧ ∀ H1, LamX.ExtN H H1 → TabL P nm H1 → t (resE K A Q) σ H1 fun v H' => ∀ p H2, Kp [] H' H2 → H2 p = some (.tup [.str "value", v]) → Q (.ref p) H2
theorem pe_lamres {A : ErrAt} {nm : Str} {c P : Addr} {k : Nat} {params : Arguments} {body : Expr} {scope : Scope} {t : XK → TE} {p lpos pos : Pos} (D : Fn X.K X.mg "_law_result" sLawResult ["work"]) (T : ErrTop X.mg A) (b_isinstance : X.mg "isinstance" = none) (b_ValueError : X.mg "ValueError" = none)
    (f0 : ErrFld X.K A 0 "entry_id") (f1 : ErrFld X.K A 1 "cell") (f2 : ErrFld X.K A 2 "entry_id") (f3 : ErrFld X.K A 3 "entry_id") (TB : LamX.TabB X.base X.mg c P) (hr : Room (k + 2) X.A)
    (hbody : ∀ (A' : Around) (outer : List Env) (s : Shared) (H : Hp) (E : XK) (f c' : Addr), Room k (A'.deeper (LamX.lamEnv X scope s.heap.objs.size f c')) → PE (LamX.lamCx X A' outer s H E scope f c') body (t E))
    (hcode : X.env.code = .ref c := by rfl) (hq : X.env.qual ++ "<lambda>" = lamQ nm := by rfl) (L : LamX.lamSB X.env.scope scope = true := by rfl) (hdef : defaultsOf params X.env = ([], []) := by rfl)
    (hbind : ∀ (q : Str) (cl : List (Str × Addr)) (pm cv ctv : Value), bindArgs (PySem.W.kla_fn "<lambda>" q params body scope cl pm cv ctv) ⟨[], []⟩ = pure [] := by exact fun _ _ _ _ _ => rfl) (hg : Gl X "_law_result" := by rfl) :
    PE X (.Call (.Name "_law_result" p) [.Lambda params body scope lpos] [] pos) (tLamR X.K A P nm t) := by
  obtain ⟨g, fd, F, m, b⟩ := D
  obtain ⟨oc, od, kV, doc, pm, an, cdv, ct, osl, rfl, lk, hcd⟩ := F.ex
  have G := result_gives (X := X) (g := g) (cdg := cdv) (q := lamQ nm) T b_isinstance b_ValueError f0 f1 f2 f3
  have R := LamX.pe_lamcall (T := [(P, X.env.qual ++ "<lambda>")]) (x := "_law_result") (a := "work") (Ng := ["work", "e", "marks", "error", "result"]) (TT := TRes X.K A) (t := t) (p := p) (lpos := lpos) (pos := pos) (k := k) hg m F.kp lk hcd b scLawResult rfl (.inl rfl) (by rw [hq]; exact G) TB hcode (by simp) (fun p hp _ => by rw [List.mem_singleton.mp hp]) hr (LamX.lamS_by L) hdef hbind hbody
  refine ⟨fun pins s σ H Q I h => R.run pins s σ H Q I ?_⟩
  obtain ⟨h1, h2⟩ := h
  refine ⟨fun p hp => by rw [List.mem_singleton.mp hp, hq]; exact h1, fun H1 e t1 => ?_⟩
  have t2 := t1 _ List.mem_cons_self
  rw [hq] at t2
  have t3 : TabL P nm H1 := t2
  exact fun H0 k0 => h2 H0 (e.trans (LamX.ExtN.of fun b o z => k0 b o (by simp) z)) (t3.keep k0)
end
end NV
/-! ErrB -/
set_option Elab.async false
set_option linter.all false
set_option maxRecDepth 100000
set_option maxHeartbeats 600000
/-! what is known of the classes of errors, as one question to the written part -/
namespace NV
open PySem PySem.Spec PyProof.Rows L2
def excCB (K : PySem.W.Frag) (D : Addr) : Bool := decide (PySem.W.findIn K (.ref D) "__getattribute__" = some (some (.builtin "BaseException.__getattribute__"))) && (decide (PySem.W.findIn K (.ref D) "__getattr__" = some none) && (decide (PySem.W.subIn K (.ref D) (.type "BaseException") = some true) && (PySem.W.hasDictIn K D &&
  (decide (PySem.W.findIn K (.ref D) "__class__" = some (some (.builtin "object.__class__"))) && (decide (PySem.W.specialIn K (.builtin "object.__class__") "__get__" = some (some (.builtin "getset_descriptor.__get__"))) && (decide (PySem.W.takesIn K (.builtin "object.__class__") = some true) && decide (PySem.W.mroIn K D (.type "object") = some true)))))))
theorem excC_of {K : PySem.W.Frag} {D : Addr} (h : excCB K D = true) : L2.ExcC K D := by
  unfold excCB at h
  simp only [Bool.and_eq_true, decide_eq_true_eq] at h
  obtain ⟨h1, h2, h3, h4, h5, h6, h7, h8⟩ := h
  exact ⟨h1, h2, h3, h4, h5, h6, h7, h8⟩
def errClsB (K : PySem.W.Frag) (A : ErrAt) (i : Nat) : Bool := excCB K (A.no i) && (decide (PySem.W.exmOne K (.ref (A.no i)) (.ref A.top) = some true) && ((List.range 7).all (fun j => decide (PySem.W.kitOne K (.ref (A.no i)) (.ref (A.no j)) = some (decide (i = j)))) && decide (PySem.W.kitOne K (.ref (A.no i)) (.type "ValueError") = some true)))
theorem errCls_of {K : PySem.W.Frag} {A : ErrAt} {i : Nat} (h : errClsB K A i = true) : ErrCls K A i := by
  unfold errClsB at h
  simp only [Bool.and_eq_true, decide_eq_true_eq, List.all_eq_true, List.mem_range] at h
  obtain ⟨h1, h2, h3, h4⟩ := h
  exact ⟨excC_of h1, h2, h3, h4⟩
def errFldB (K : PySem.W.Frag) (A : ErrAt) (i : Nat) (f : Str) : Bool := L2.xfB K (A.no i) && decide (PySem.W.findIn K (.ref (A.no i)) f = some none)
theorem errFld_of {K : PySem.W.Frag} {A : ErrAt} {i : Nat} {f : Str} (h : errFldB K A i f = true) : ErrFld K A i f := by
  unfold errFldB at h
  simp only [Bool.and_eq_true, decide_eq_true_eq] at h
  exact ⟨xfB_ok h.1, h.2⟩
def errB (K : PySem.W.Frag) (C : Addr) : Bool := PySem.W.excIn K C [.type "ValueError", .type "Exception", .type "BaseException", .type "object"] "ValueError.__new__" && (PySem.W.keepIn K (.ref C) && (decide (PySem.W.subIn K (.ref C) (.type "BaseException") = some true) && decide (PySem.W.typeIn K (.ref C) = some (.type "type"))))
theorem err_of {K : PySem.W.Frag} {mg : Str → Option Value} {nm : Str} {C : Addr} (g : mg nm = some (.ref C)) (h : errB K C = true) : ∃ D : Err K mg nm, D.C = C := by
  unfold errB at h
  simp only [Bool.and_eq_true, decide_eq_true_eq] at h
  exact ⟨⟨C, g, h.1, h.2.1, h.2.2.1, h.2.2.2⟩, rfl⟩
/-- all of it -/
def errAllB (K : PySem.W.Frag) (A : ErrAt) : Bool := (List.range 7).all (errClsB K A) && (errFldB K A 0 "entry_id" && (errFldB K A 1 "cell" && (errFldB K A 2 "entry_id" && errFldB K A 3 "entry_id")))
end NV
/-! RepB -/
set_option Elab.async false
set_option linter.all false
set_option maxRecDepth 100000
set_option maxHeartbeats 600000
/-! repr of bools, of data within bounds -/
namespace NV
open PySem PySem.Spec PyProof.Rows L2
theorem nil_on {σ : L2.St} {H : Hp} {Q : List V → Hp → Prop} (h : Q [] H) : tNil σ H Q := h
theorem rp_bl {b : Bool} {H : Hp} {Q : VK} (q : Q (.str (PyData.bool b).shown) H) : rRepr [V.bl b] H Q := ⟨.bl b, .bool b, rfl, rfl, by simp only [PyData.showable], by simp only [PyData.depth]; omega, by simp only [PyData.shown]; cases b <;> decide, q⟩
theorem rp_good {ex : List Addr} {d : PyData} {v : V} {H : Hp} {Q : VK} (g : Good d) (r : Rp ex H d v) (q : Q (.str d.shown) H) : rRepr [v] H Q := ⟨v, d, rfl, r.less (by simp), show_of_nice d g.nice, g.deep, g.fits, q⟩
/-- a list of two bools, just laid -/
theorem rp_bls {a b : Bool} {l : Addr} {H : Hp} {Q : VK} (h : H l = some (.lst [V.bl a, V.bl b])) (q : Q (.str (PyData.list [.bool a, .bool b]).shown) H) : rRepr [V.ref l] H Q := by
  refine rp_good (ex := []) (d := .list [.bool a, .bool b]) ⟨?_, ?_, ?_⟩ ⟨l, _, rfl, by simp, h, .bl a, _, rfl, rfl, .bl b, [], rfl, rfl, rfl⟩ q
  · cases a <;> cases b <;> rfl
  · simp only [PyData.depth, PyData.depthAll]; decide
  · simp only [vol, volAll]; decide
end NV
/-! WrongL -/
set_option Elab.async false
set_option linter.all false
set_option maxRecDepth 100000
set_option maxHeartbeats 600000
/-! values that are no logs: a log with something wrong behind it -/
namespace NV
open PySem PySem.Spec PyProof.Rows L2
theorem catA_any {K : PySem.W.Frag} {a b : Addr} {xs ys : List V} {H : Hp} {Q : VK} (ha : H a = some (.tup xs)) (hb : H b = some (.tup ys)) (hy : ys ≠ []) (hl : xs.length + ys.length ≤ sizeLine)
    (q : ∀ r H', Kp [] H H' → H' r = some (.tup (xs ++ ys)) → (r = b ∨ H r = none) → Q (.ref r) H') : rCatA K (.ref a) (.ref b) H Q := by
  refine ⟨a, b, xs, ys, rfl, rfl, .inl (.inl ha), .inl (.inl hb), hl, fun e => ?_, fun _ e => absurd e hy, fun _ _ p np => q p _ (Kp.laid np) upd_same (.inr np)⟩
  refine q b H Kp.refl ?_ (.inl rfl)
  rw [e, List.nil_append]
  exact hb
theorem log_yes {es : List Ent} (h : LogOk es) (h60 : es.length ≤ 60) : logD' (logD es) = true := by
  show logD' (.tuple (es.map Ent.data)) = true
  rw [log_data h.ok, decide_eq_true h60, decide_eq_true h.nd]
  rfl
theorem log_bad {ds : List PyData} {d : PyData} (h : entryD d = false) : logD' (.tuple (ds ++ [d])) = false := by
  have e : (ds ++ [d]).all entryD = false := by
    rw [List.all_append]
    simp [h]
  show (decide ((ds ++ [d]).length ≤ 60) && (ds ++ [d]).all entryD && decide (((ds ++ [d]).map idOfD).Nodup)) = false
  rw [e, Bool.and_false, Bool.false_and]
theorem nice_snoc {ds : List PyData} {d : PyData} (h1 : niceAll ds = true) (h2 : niceD d = true) : niceAll (ds ++ [d]) = true := by
  refine nice_of_mem fun x hx => ?_
  rcases List.mem_append.mp hx with z | z
  · exact nice_mem h1 z
  · rw [List.mem_singleton.mp z]; exact h2
/-- a value that is no log, as data -/
def NoLog (ex : List Addr) (H : Hp) (y : V) : Prop := ∃ d, Rp ex H d y ∧ niceD d = true ∧ logD' d = false
end NV
/-! LcR -/
set_option Elab.async false
set_option linter.all false
set_option maxRecDepth 100000
set_option maxHeartbeats 600000
/-! a comprehension over texts that makes a tuple at each turn -/
namespace NV
open PySem PySem.Spec PyProof.Rows L2
/-- a triple laid after a list's items -/
theorem RpAll.laid {ex : List Addr} {H : Hp} {ds : List PyData} {vs ws : List V} {es : List PyData} {T : Addr} (h : RpAll ex H ds vs) (nT : H T = none) (lv : Live ex H) (hw : RpAll ex H es ws) : RpAll ex (upd H T (.tup ws)) (ds ++ [.tuple es]) (vs ++ [.ref T]) := by
  have kT : Kp [] H (upd H T (.tup ws)) := Kp.laid nT
  refine RpAll.app (RpAll.keep (kT.mono (by simp)) _ _ h) ⟨_, [], rfl, ⟨T, ws, rfl, fun z => lv T z nT, upd_same, RpAll.keep (kT.mono (by simp)) _ _ hw⟩, rfl⟩
/-- what is gone through: texts, by their places, the heap as it was -/
structure TxtIt (J : It) (zs : List Str) (H1 : Hp) : Prop where
  go : ∀ j H, Kp [] H1 H → j < zs.length → J.go j H
  stop : ∀ H, Kp [] H1 H → J.stop zs.length H
  yld : ∀ j H x H', Kp [] H1 H → j < zs.length → J.yld j H x H' → H' = H ∧ ∃ c, zs[j]? = some c ∧ x = .str c
theorem txt_at {zs : List Str} {j : Nat} {x : V} (h : (zs.map V.str)[j]? = some x) : ∃ c, zs[j]? = some c ∧ x = .str c := by
  rw [List.getElem?_map] at h
  cases hc : zs[j]? with
  | none => rw [hc] at h; cases h
  | some c => rw [hc] at h; exact ⟨c, rfl, (Option.some.inj h).symm⟩
theorem txt_tup {K : PySem.W.Frag} {a : Addr} {zs : List Str} {H1 : Hp} (h : H1 a = some (.tup (zs.map V.str))) : TxtIt (Itt K a) zs H1 where
  go := fun j H k hj => ⟨_, V.str zs[j], .inl (.inl (k _ _ (by simp) h)), by rw [List.getElem?_map, List.getElem?_eq_getElem hj]; rfl⟩
  stop := fun H k => ⟨_, .inl (.inl (k _ _ (by simp) h)), by rw [List.length_map]; exact Nat.le_refl _⟩
  yld := fun j H x H' k hj y => ⟨y.1, txt_at (y.2 _ (.inl (.inl (k _ _ (by simp) h))))⟩
theorem txt_lst {K : PySem.W.Frag} {a : Addr} {zs : List Str} {H1 : Hp} (h : H1 a = some (.lst (zs.map V.str))) : TxtIt (Itl K a) zs H1 where
  go := fun j H k hj => ⟨_, V.str zs[j], .inl (.inl (k _ _ (by simp) h)), by rw [List.getElem?_map, List.getElem?_eq_getElem hj]; rfl⟩
  stop := fun H k => ⟨_, .inl (.inl (k _ _ (by simp) h)), by rw [List.length_map]; exact Nat.le_refl _⟩
  yld := fun j H x H' k hj y => ⟨y.1, txt_at (y.2 _ (.inl (.inl (k _ _ (by simp) h))))⟩
theorem lc_rows {J : It} {te : TE} {i : Nat} {σ : L2.St} {C : Addr} {H1 : Hp} {Qd : Hp → Prop} {zs : List Str} {ex : List Addr} (f : Str → List PyData) (hJ : TxtIt J zs H1) (nC : H1 C = none) (lv : Live ex H1) (hz : zs.length < 1000) (hw : ∀ x, wipe ((wipe σ [i]).set i x) [i] = wipe σ [i])
    (hs : ∀ c H Q, c ∈ zs → Kp [] H1 H → (∀ T vs, H T = none → RpAll (C :: ex) H (f c) vs → Q (.ref T) (upd H T (.tup vs))) → te ((wipe σ [i]).set i (some (.str c))) H Q)
    (hd : ∀ H vs, Kp [] H1 H → H C = some (.lst vs) → RpAll (C :: ex) H (zs.map fun c => .tuple (f c)) vs → Qd H) :
    ∃ W : Nat → Nat → Hp → Prop, (∃ m, W 0 m (upd H1 C (.lst []))) ∧ ∀ i_1 m H, W i_1 m H →
      (J.stop i_1 H ∧ Qd H) ∨ (J.go i_1 H ∧ ∃ Nx : Hp → Prop, (∀ H', Nx H' → ∃ m', m' < m ∧ W (i_1 + 1) m' H') ∧ ∀ x H', J.yld i_1 H x H' → gName i x (wipe σ [i]) H' fun σ2 H2 => wipe σ2 [i] = wipe σ [i] ∧ tYes σ2 H2 fun b H3 =>
        if b = true then te σ2 H3 fun y H4 => ∃ acc, H4 C = some (.lst acc) ∧ acc.length < sizeLine ∧ Nx (upd H4 C (.lst (acc ++ [y]))) else Nx H3) := by
  have line : (100000 : Nat) < sizeLine := by decide
  have lvC : ∀ {H : Hp}, Kp [C] (upd H1 C (.lst [])) H → H C ≠ none → Live (C :: ex) H := fun k hC b hb => by
    rcases List.mem_cons.mp hb with e | e
    · rw [e]; exact hC
    · have kH : Kp [] H1 _ := Kp.drop (((Kp.laid (ex := []) nC).mono (by simp)).trans k) nC
      exact lv.kp0 kH b e
  have dC : ∀ {H : Hp}, Kp [C] (upd H1 C (.lst [])) H → Kp [] H1 H := fun k => Kp.drop (((Kp.laid (ex := []) nC).mono (by simp)).trans k) nC
  refine lc_inv zs.length (fun n H => Kp [C] (upd H1 C (.lst [])) H ∧ ∃ vs, H C = some (.lst vs) ∧ RpAll (C :: ex) H ((zs.take n).map fun c => .tuple (f c)) vs) ⟨Kp.refl, [], upd_same, rfl⟩ (fun H ⟨k, vs, hC, hr⟩ => ⟨hJ.stop H (dC k), hd H vs (dC k) hC (by rw [List.take_length] at hr; exact hr)⟩) (fun n H hn ⟨k, _⟩ => hJ.go n H (dC k) hn) ?_
  rintro n H x H' hn ⟨k, vs, hC, hr⟩ hy
  obtain ⟨rfl, c, hc, rfl⟩ := hJ.yld n H x H' (dC k) hn hy
  refine ⟨hw _, yes_on (hs c _ _ (List.mem_of_getElem? hc) (dC k) fun T ws nT hws => ?_)⟩
  have kT : Kp [] H' (upd H' T (.tup ws)) := Kp.laid nT
  have hvl : vs.length ≤ zs.length := by
    have := hr.length
    rw [List.length_map, List.length_take] at this
    omega
  refine ⟨vs, kT _ _ (by simp) hC, by omega, (k.trans (kT.mono (by simp))).trans (Kp.put (by simp)), _, upd_same, ?_⟩
  have h1 := RpAll.laid hr nT (lvC k (by rw [hC]; simp)) hws
  have h2 := RpAll.keep (Kp.put (ex := C :: ex) (p := C) (o := .lst (vs ++ [.ref T])) (by simp)) _ _ h1
  rw [List.take_add_one, hc, List.map_append]
  exact h2
end NV
/-! DataOk -/
set_option Elab.async false
set_option linter.all false
set_option maxRecDepth 100000
set_option maxHeartbeats 600000
/-! data within bounds, compared -/
namespace NV
open PySem PySem.Spec PyProof.Rows L2
/-- a text within bounds -/
def TxtOk (z : Str) : Prop := z.length ≤ 100 ∧ PyData.strOk z = true
structure DOk (n : Nat) (d : PyData) : Prop where
  nice : niceD d = true
  lay : d.canLay0 = true
  deep : d.depth ≤ n
theorem DOk.str {n : Nat} {z : Str} (h : TxtOk z) : DOk n (.str z) := ⟨by simp only [niceD, Bool.and_eq_true, decide_eq_true_eq]; exact h, by simp only [PyData.canLay0]; exact h.2, by simp only [PyData.depth]; exact Nat.zero_le _⟩
theorem DOk.non {n : Nat} : DOk n .none := ⟨rfl, rfl, by simp only [PyData.depth]; exact Nat.zero_le _⟩
theorem DOk.all {n : Nat} : ∀ {ds : List PyData}, (∀ d ∈ ds, DOk n d) → niceAll ds = true ∧ PyData.canLayAll0 ds = true ∧ PyData.depthAll ds ≤ n
  | [], _ => ⟨rfl, rfl, by simp only [PyData.depthAll]; exact Nat.zero_le _⟩
  | d :: ds, h => by
    obtain ⟨h1, h2, h3⟩ := DOk.all (ds := ds) fun x hx => h x (List.mem_cons_of_mem _ hx)
    have hd := h d List.mem_cons_self
    refine ⟨?_, ?_, ?_⟩
    · simp only [niceAll, Bool.and_eq_true]
      exact ⟨hd.nice, h1⟩
    · simp only [PyData.canLayAll0, Bool.and_eq_true]
      exact ⟨hd.lay, h2⟩
    · simp only [PyData.depthAll]
      exact Nat.max_le.mpr ⟨hd.deep, h3⟩
theorem DOk.tup {n : Nat} {ds : List PyData} (h : ∀ d ∈ ds, DOk n d) : DOk (n + 1) (.tuple ds) := by
  obtain ⟨h1, h2, h3⟩ := DOk.all h
  exact ⟨by simp only [niceD]; exact h1, by simp only [PyData.canLay0]; exact h2, by simp only [PyData.depth]; omega⟩
theorem DOk.lst {n : Nat} {ds : List PyData} (h : ∀ d ∈ ds, DOk n d) : DOk (n + 1) (.list ds) := by
  obtain ⟨h1, h2, h3⟩ := DOk.all h
  exact ⟨by simp only [niceD]; exact h1, by simp only [PyData.canLay0]; exact h2, by simp only [PyData.depth]; omega⟩
theorem DOk.shaped {n : Nat} {d : PyData} (h : DOk n d) (hn : n ≤ 64 := by decide) : SeqAt.shaped d = true := by
  unfold SeqAt.shaped
  rw [h.lay]
  exact decide_eq_true (Nat.le_trans h.deep hn)
theorem ne_ok {K : PySem.W.Frag} {ex ex' : List Addr} {H : Hp} {v u : V} {d : PyData} {n : Nat} {Q : VK} (h : DOk n d) (hv : Rp ex H d v) (hu : Rp ex' H d u) (q : Q (.bl false) H) (hn : n ≤ 64 := by decide) : rNeD K v u H Q := by
  refine ⟨d, d, Rp.dp _ _ h.nice h.lay hv, Rp.dp _ _ h.nice h.lay hu, h.shaped hn, h.shaped hn, ?_⟩
  rw [SeqAt.eqv_refl _ h.lay]
  exact q
theorem eq_ok {K : PySem.W.Frag} {ex ex' : List Addr} {H : Hp} {v u : V} {d : PyData} {n : Nat} {Q : VK} (h : DOk n d) (hv : Rp ex H d v) (hu : Rp ex' H d u) (q : Q (.bl true) H) (hn : n ≤ 64 := by decide) : rEqD K v u H Q := by
  refine ⟨d, d, Rp.dp _ _ h.nice h.lay hv, Rp.dp _ _ h.nice h.lay hu, h.shaped hn, h.shaped hn, ?_⟩
  rw [SeqAt.eqv_refl _ h.lay]
  exact q
theorem idB_txt {z : Str} (h : idB z = true) : TxtOk z := ⟨by have := (word_len h).1; omega, (word_len h).2⟩
theorem cellB_txt {z : Str} (h : cellB z = true) : TxtOk z := ⟨by have := (word_len h).1; omega, (word_len h).2⟩
theorem nil_txt : TxtOk ("" : Str) := ⟨by decide, by decide +kernel⟩
/-- a list of texts, as data -/
theorem strs_list {ex : List Addr} {H : Hp} {a : Addr} {zs : List Str} (hn : a ∉ ex) (h : H a = some (.lst (zs.map V.str))) : Rp ex H (.list (zs.map PyData.str)) (.ref a) := ⟨a, _, rfl, hn, h, RpAll.strs zs⟩
theorem strs_ok {zs : List Str} (h : ∀ z ∈ zs, TxtOk z) : DOk 1 (.list (zs.map PyData.str)) := DOk.lst fun d hd => by
  obtain ⟨z, hz, rfl⟩ := List.mem_map.mp hd
  exact DOk.str (h z hz)
end NV
/-! C06g -/
set_option Elab.async false
set_option linter.all false
set_option maxRecDepth 100000
set_option maxHeartbeats 1000000
/-! a pick out of a tuple, two promises of one def, drawn values -/
namespace NV
open PySem PySem.Spec PyProof.Rows L2
open C8 (pss_cut pe_gc)
def spPickT (K : PySem.W.Frag) : Sp := fun vs H Q _ => ∃ (D : Dr) (n : Nat) (a : Addr) (xs : List V), vs = [.ref D.d, .ref a] ∧ H a = some (.tup xs) ∧ 0 < xs.length ∧ xs.length < 1073741824 ∧ DrAt D (n + 1) H ∧
  ∀ (i : Nat) (v : V) (H' : Hp), xs[i]? = some v → Kp D.ex H H' → DrAt D n H' → Q v H'
theorem FnOk.or {CX : CXT} {P : Program} {w : World} {K : PySem.W.Frag} {mg : Str → Option Value} {base : Heap} {k : Nat} {f : Addr} {fd : FuncData} {ps : List Str} {sp sp' : Sp} (A : FnOk P w K mg base CX k f fd ps sp) (B : FnOk P w K mg base CX k f fd ps sp') : FnOk P w K mg base CX k f fd ps (fun vs H Q E => sp vs H Q E ∨ sp' vs H Q E) :=
  ⟨fun vs H Q E h => h.elim (A.len vs H Q E) (B.len vs H Q E), fun A' outer s H args us vs Q E hr e0 hb hv h => h.elim (A.run A' outer s H args us vs Q E hr e0 hb hv) (B.run A' outer s H args us vs Q E hr e0 hb hv)⟩
section
variable {P : Program} {w : World} {K : PySem.W.Frag} {mg : Str → Option Value} {base : Heap}
theorem ok_pickT (D : Fn K mg "_law_pick" sLawPick ["draw", "some"]) (T : Fn K mg "_law_take" sLawTake ["draw", "size"]) (b_len : mg "len" = none) (G : FnOk P w K mg base CX0 2 T.f T.fd ["draw", "size"] spTake) : FnOk P w K mg base CX0 3 D.f D.fd ["draw", "some"] (spPickT K) := by
  refine D.F.ok scLawPick (fun vs H Q E h => ?_) (fun cdv A outer s H vs Q E hr h => ?_)
  · obtain ⟨D, n, a, xs, rfl, _⟩ := h
    rfl
  obtain ⟨D, n, a, xs, rfl, ha, l0, l1, hD, q⟩ := h
  refine ⟨_, pss_one (ps_ret (pe_ix ix_tup (pv 1) (pe_fn T G hr (pa_cons (pv 0) (pa_cons (pe_callB call_len_seq (by rfl) b_len (by decide +kernel) (pa_cons (pv 1) pa_nil)) pa_nil))) (fun _ _ => rfl))), ?_⟩
  refine ⟨_, rfl, _, rfl, _, rfl, a, xs, rfl, .inr (.inl (.inl ha)), D, n, _, rfl, (by omega), (by omega), hD, fun i H' h0 h1 k hD' => ?_⟩
  have hlt : i.toNat < xs.length := by omega
  have ei : ((i.toNat : Nat) : Int) = i := by omega
  have g : atI xs ((i.toNat : Nat) : Int) = some xs[i.toNat] := atI_nat (List.getElem?_eq_getElem hlt)
  rw [ei] at g
  have na : a ∉ D.ex := fun z => by
    obtain ⟨_, large, items, left, turn, h1, h2, _⟩ := hD
    rcases List.mem_cons.mp z with z | z
    · rw [z, h1] at ha; cases ha
    · rw [List.mem_singleton.mp z, h2] at ha; cases ha
  exact ⟨a, xs, i, xs[i.toNat], rfl, rfl, .inl (.inl (k _ _ na ha)), g, q i.toNat _ H' (List.getElem?_eq_getElem hlt) k hD'⟩
end
/-- a value that is drawn -/
def VOk (d : PyData) : Prop := niceD d = true ∧ d.depth ≤ 1 ∧ vol d ≤ 100
def Drawn (ex : List Addr) (H : Hp) (y : V) : Prop := ∃ d, Rp ex H d y ∧ VOk d
theorem Drawn.keep {ex : List Addr} {H H' : Hp} {y : V} (h : Drawn ex H y) (k : Kp ex H H') : Drawn ex H' y := let ⟨d, r, o⟩ := h; ⟨d, Rp.keep k _ _ r, o⟩
theorem str_vok {z : Str} (h : z.length ≤ 9) (h2 : PyData.strOk z = true) : VOk (.str z) := by
  refine ⟨?_, by simp only [PyData.depth]; omega, by simp only [vol]; omega⟩
  simp only [niceD, Bool.and_eq_true, decide_eq_true_eq]
  exact ⟨by omega, h2⟩
theorem id_vok {z : Str} (h : idB z = true) : VOk (.str z) := str_vok (by have := (word_len h).1; omega) (word_len h).2
theorem cell_vok {z : Str} (h : cellB z = true) : VOk (.str z) := str_vok (by have := (word_len h).1; omega) (word_len h).2
theorem ids_vol : ∀ zs : List Str, (∀ z ∈ zs, z.length ≤ 6) → volAll (zs.map PyData.str) ≤ 64 * zs.length
  | [], _ => by simp [volAll]
  | z :: zs, h => by
    have := ids_vol zs fun y hy => h y (List.mem_cons_of_mem _ hy)
    have hz := h z List.mem_cons_self
    rw [List.map_cons]
    simp only [volAll, vol, List.length_cons]
    omega
theorem Ent.Ok.idb {e : Ent} (h : e.Ok) : idB e.id = true := by
  cases e with
  | wr id rs ws pr => exact h.1
  | qu id cs => exact h.1
theorem strs_depth : ∀ zs : List Str, PyData.depthAll (zs.map PyData.str) = 0
  | [] => rfl
  | z :: zs => by
    rw [List.map_cons]
    simp only [PyData.depthAll, PyData.depth]
    rw [strs_depth zs]
    rfl
/-- how far the result stands apart from the draws -/
theorem dr_tup {D : Dr} {n : Nat} {H : Hp} {p : Addr} {xs : List V} (d : DrAt D n H) (h : H p = some (.tup xs)) : p ∉ D.ex := fun z => by
  obtain ⟨_, large, items, left, turn, h1, h2, _⟩ := d
  rcases List.mem_cons.mp z with z | z
  · rw [z, h1] at h; cases h
  · rw [List.mem_singleton.mp z, h2] at h; cases h
end NV
/-! Chg -/
set_option Elab.async false
set_option linter.all false
set_option maxRecDepth 100000
set_option maxHeartbeats 1000000
/-! the law's _law_changed -/
namespace NV
open PySem PySem.Spec PyProof.Rows L2
open C8 (pss_cut pe_gc)
abbrev sLawChanged : Stmt := topS 59
theorem scLawChanged : FnScope ["draw", "book", "spots", "road", "names", "step", "name", "spot", "at", "way", "entry"] ["draw", "book", "spots", "road"] (defScope sLawChanged) := ⟨rfl, rfl, rfl, by decide +kernel, rfl, by decide +kernel, by decide +kernel⟩
/-- an item within bounds -/
structure ItB (d : PyData) : Prop where
  nice : niceD d = true
  deep : d.depth ≤ 3
  small : vol d ≤ 300
/-- a value within bounds -/
structure AnyB (d : PyData) : Prop where
  nice : niceD d = true
  deep : d.depth ≤ 8
  small : vol d ≤ 3000
theorem ItB.any {d : PyData} (h : ItB d) : AnyB d := ⟨h.nice, by have := h.deep; omega, by have := h.small; omega⟩
theorem items_b : ∀ {ds : List PyData}, (∀ d ∈ ds, ItB d) → niceAll ds = true ∧ PyData.depthAll ds ≤ 3 ∧ volAll ds ≤ 302 * ds.length
  | [], _ => ⟨rfl, by simp only [PyData.depthAll]; omega, by simp only [volAll]; omega⟩
  | d :: ds, h => by
    obtain ⟨h1, h2, h3⟩ := items_b (ds := ds) fun x hx => h x (List.mem_cons_of_mem _ hx)
    have hd := h d List.mem_cons_self
    have s1 := hd.small
    have s2 := hd.deep
    refine ⟨?_, ?_, ?_⟩
    · simp only [niceAll, Bool.and_eq_true]
      exact ⟨hd.nice, h1⟩
    · simp only [PyData.depthAll]
      omega
    · simp only [volAll, List.length_cons]
      omega
theorem items_tup {ds : List PyData} (h : ∀ d ∈ ds, ItB d) (l : ds.length ≤ 9) : AnyB (.tuple ds) := by
  obtain ⟨h1, h2, h3⟩ := items_b h
  exact ⟨by simp only [niceD]; exact h1, by simp only [PyData.depth]; omega, by simp only [vol]; omega⟩
theorem items_lst {ds : List PyData} (h : ∀ d ∈ ds, ItB d) (l : ds.length ≤ 9) : AnyB (.list ds) := by
  obtain ⟨h1, h2, h3⟩ := items_b h
  exact ⟨by simp only [niceD]; exact h1, by simp only [PyData.depth]; omega, by simp only [vol]; omega⟩
/-- a word within bounds -/
structure Wd (z : Str) : Prop where
  len : z.length ≤ 9
  ok : PyData.strOk z = true
theorem Wd.v {z : Str} (h : Wd z) : VOk (.str z) := str_vok h.len h.ok
theorem small_it {ds : List PyData} {d : PyData} (h : ∀ d ∈ ds, niceD d = true ∧ d.depth ≤ 1 ∧ vol d ≤ 96) (l : ds.length ≤ 3) (hd : d = .tuple ds ∨ d = .list ds) : ItB d := by
  have all : ∀ {ds : List PyData}, (∀ d ∈ ds, niceD d = true ∧ d.depth ≤ 1 ∧ vol d ≤ 96) → niceAll ds = true ∧ PyData.depthAll ds ≤ 1 ∧ volAll ds ≤ 98 * ds.length := fun {ds} h => by
    induction ds with
    | nil => exact ⟨rfl, by simp only [PyData.depthAll]; omega, by simp only [volAll]; omega⟩
    | cons d ds ih =>
      obtain ⟨h1, h2, h3⟩ := ih fun x hx => h x (List.mem_cons_of_mem _ hx)
      obtain ⟨a1, a2, a3⟩ := h d List.mem_cons_self
      refine ⟨?_, ?_, ?_⟩
      · simp only [niceAll, Bool.and_eq_true]
        exact ⟨a1, h1⟩
      · simp only [PyData.depthAll]
        omega
      · simp only [volAll, List.length_cons]
        omega
  obtain ⟨h1, h2, h3⟩ := all h
  rcases hd with rfl | rfl
  · exact ⟨by simp only [niceD]; exact h1, by simp only [PyData.depth]; omega, by simp only [vol]; omega⟩
  · exact ⟨by simp only [niceD]; exact h1, by simp only [PyData.depth]; omega, by simp only [vol]; omega⟩
theorem Wd.s {z : Str} (h : Wd z) : niceD (.str z) = true ∧ (PyData.str z).depth ≤ 1 ∧ vol (.str z) ≤ 96 := by
  obtain ⟨h1, _, _⟩ := h.v
  have := h.len
  exact ⟨h1, by simp only [PyData.depth]; omega, by simp only [vol]; omega⟩
theorem step_it {s : Str × Str} (h1 : Wd s.1) (h2 : Wd s.2) : ItB (stepD s) := small_it (ds := [.str s.1, .str s.2]) (fun d hd => by
  rcases List.mem_cons.mp hd with rfl | hd
  · exact h1.s
  · rw [List.mem_singleton.mp hd]; exact h2.s) (by simp) (.inl rfl)
theorem cut_first (xs : List V) {k : Nat} (h : k ≤ xs.length) : cutV xs none (some (k : Int)) = xs.take k := by
  unfold cutV
  rw [HT.sIx_none, HT.sIx_nat, Nat.min_eq_left h]
  rfl
/-- the value stands for data within bounds -/
def AnyV (ex : List Addr) (H : Hp) (y : V) : Prop := ∃ d, Rp ex H d y ∧ AnyB d
def spChg : Sp := fun vs H Q _ => ∃ (D : Dr) (n : Nat) (v rd : V) (c : Addr) (es : List Ent) (ys : List Str) (p : Path), vs = [.ref D.d, v, .ref c, rd] ∧ Rp D.ex H (logD es) v ∧ LogOk es ∧ es.length ≤ 6 ∧ H c = some (.lst (ys.map V.str)) ∧ c ∉ D.all ∧ (∀ z ∈ ys, Wd z) ∧ ys.length ≤ 60 ∧
  Rp D.ex H (pathD p) rd ∧ 1 ≤ p.length ∧ p.length ≤ 7 ∧ (∀ s ∈ p, Wd s.1 ∧ Wd s.2) ∧ DrAt D (n + 20) H ∧ ∀ y H', AnyV D.ex H' y → Kp D.ex H H' → DrAt D n H' → Q y H'
section
variable {P : Program} {w : World} {K : PySem.W.Frag} {mg : Str → Option Value} {base : Heap}
theorem ok_chg (DLawChanged : Fn K mg "_law_changed" sLawChanged ["draw", "book", "spots", "road"]) (DLawTake : Fn K mg "_law_take" sLawTake ["draw", "size"]) (DLawPick : Fn K mg "_law_pick" sLawPick ["draw", "some"]) (b_len : mg "len" = none) (b_list : mg "list" = none)
    (GLawTake : FnOk P w K mg base CX0 2 DLawTake.f DLawTake.fd ["draw", "size"] spTake) (GLawPick : FnOk P w K mg base CX0 3 DLawPick.f DLawPick.fd ["draw", "some"] (spPick K)) :
    FnOk P w K mg base CX0 4 DLawChanged.f DLawChanged.fd ["draw", "book", "spots", "road"] spChg := by
  refine DLawChanged.F.ok scLawChanged (fun vs H Q E h => ?_) (fun cdv A outer s H vs Q E hr h => ?_)
  · obtain ⟨D, n, v, rd, c, es, ys, p, rfl, _⟩ := h
    rfl
  obtain ⟨D, n, v, rd, c, es, ys, p, rfl, rv, hok, h6, hc, hcD, hys, hyl, rrd, p1, p7, hpw, dr, q⟩ := h
  refine ⟨_, pss_cons (ps_set (i := 4) scLawChanged.nd rfl (.inl rfl) (pe_op op_cat (pe_lc (own := [("entry", 10)]) (g := gName 10) (tt := tYes) (by rfl) scLawChanged.nd (piTupE K (pv 1)) (blkOk_by (N := ["draw", "book", "spots", "road", "names", "step", "name", "spot", "at", "way", "entry"]) (sc := defScope sLawChanged) (by decide +kernel)) (fun _ _ _ _ _ => (pg_name (i := 10) scLawChanged.nd rfl (.inl rfl))) (fun _ _ _ _ _ => pts_nil) (fun _ _ _ _ _ => (pe_ix (ixtE K) (pv 10) pe_int (fun _ _ => rfl)))) (pe_lst (pa_cons pe_str (pa_cons pe_str pa_nil)))))
      (pss_cons (ps_par (i := 6) (j := 7) rfl scLawChanged.nd rfl rfl (by decide) rfl rfl (pa_cons (pe_fn DLawPick GLawPick hr (pa_cons (pv 0) (pa_cons (pv 4) pa_nil))) (pa_cons (pe_fn DLawPick GLawPick hr (pa_cons (pv 0) (pa_cons (pe_op op_cat (pv 2) (pe_lst (pa_cons pe_str pa_nil))) pa_nil))) pa_nil)) rfl)
      (pss_cons (ps_set (i := 5) scLawChanged.nd rfl (.inl rfl) (pe_fn DLawPick GLawPick hr (pa_cons (pv 0) (pa_cons (pe_op op_cat (pe_op op_rep (pe_lst (pa_cons (pe_tup (pa_cons (pv 6) (pa_cons (pv 7) pa_nil))) pa_nil)) pe_int) (pe_lst (pa_cons (pe_tup (pa_cons (pe_lst (pa_cons (pv 6) pa_nil)) (pa_cons (pv 7) pa_nil))) (pa_cons (pe_tup (pa_cons (pv 6) (pa_cons pe_dnewK pa_nil))) (pa_cons (pe_tup (pa_cons (pv 6) pa_nil)) (pa_cons (pe_tup (pa_cons (pv 6) (pa_cons (pv 7) (pa_cons (pv 7) pa_nil)))) (pa_cons (pe_lst (pa_cons (pv 6) (pa_cons (pv 7) pa_nil))) pa_nil))))))) pa_nil))))
      (pss_cons (ps_par (i := 8) (j := 9) rfl scLawChanged.nd rfl rfl (by decide) rfl rfl (pa_cons (pe_fn DLawTake GLawTake hr (pa_cons (pv 0) (pa_cons (pe_op op_add (pe_callB (lenE K) (by rfl) b_len (by decide +kernel) (pa_cons (pv 3) pa_nil)) pe_int) pa_nil))) (pa_cons (pe_fn DLawTake GLawTake hr (pa_cons (pv 0) (pa_cons pe_int pa_nil))) pa_nil)) rfl)
      (pss_cons (ps_if (pt_cmpR op_eq (pv 9) pe_int (nomark _))
      (pss_one (ps_ret (pe_fn DLawPick GLawPick hr (pa_cons (pv 0) (pa_cons (pe_lst (pa_cons pe_non (pa_cons pe_str (pa_cons (pe_tup pa_nil) (pa_cons (pe_lst pa_nil) (pa_cons (pe_callTy (listE K) (by rfl) b_list (by decide +kernel) (pa_cons (pv 3) pa_nil)) (pa_cons (pe_ix (ixtE K) (pv 3) (pe_un un_neg pe_int) (fun _ _ => rfl)) (pa_cons pe_dnewK (pa_cons pe_int (pa_cons (pe_tup (pa_cons pe_non pa_nil)) (pa_cons (pe_op op_catA (pv 3) (pe_tup (pa_cons (pe_tup (pa_cons pe_str pa_nil)) pa_nil))) (pa_cons (pe_op op_catA (pv 3) (pe_tup (pa_cons pe_str pa_nil))) pa_nil)))))))))))) pa_nil)))))
      pss_nil)
      (pss_cons (ps_if (pt_cmpR op_eq (pv 9) pe_int (nomark _))
      (pss_one (ps_ret (pe_op op_catA (pe_slice (sltAE K) (pv 3) po_none (po_some (pv 8))) (pe_slice (sltAE K) (pv 3) (po_some (pe_op op_add (pv 8) pe_int)) po_none))))
      pss_nil)
      (pss_cons (ps_if (pt_cmpR op_eq (pv 9) pe_int (nomark _))
      (pss_one (ps_ret (pe_op op_catA (pe_op op_catA (pe_slice (sltAE K) (pv 3) po_none (po_some (pv 8))) (pe_tup (pa_cons (pv 5) pa_nil))) (pe_slice (sltAE K) (pv 3) (po_some (pv 8)) po_none))))
      pss_nil)
      (pss_cons (ps_if (pt_cmpR op_eq (pv 9) pe_int (nomark _))
      (pss_one (ps_ret (pe_op op_catA (pe_slice (sltAE K) (pv 3) po_none (po_some (pe_un un_neg pe_int))) (pe_tup (pa_cons (pe_callTy (listE K) (by rfl) b_list (by decide +kernel) (pa_cons (pe_ix (ixtE K) (pv 3) (pe_un un_neg pe_int) (fun _ _ => rfl)) pa_nil)) pa_nil)))))
      pss_nil)
      (pss_one (ps_ret (pe_op op_catA (pe_op op_catA (pe_slice (sltAE K) (pv 3) po_none (po_some (pv 8))) (pe_tup (pa_cons (pv 5) pa_nil))) (pe_slice (sltAE K) (pv 3) (po_some (pe_op op_add (pv 8) pe_int)) po_none))))))))))), ?_⟩
  have line : (100000 : Nat) < sizeLine := by decide
  have upk : ∀ {Ha Hb : Hp}, Kp [] Ha Hb → Kp D.ex Ha Hb := fun k => k.mono (by simp)
  obtain ⟨pa, xs, rfl, npa, hpa, hxs⟩ := id rv
  obtain ⟨R, us, rfl, nR, hR0, hus0⟩ := id rrd
  have hl : es.length = xs.length := len_data hxs
  -- the names
  refine ⟨_, rfl, pa, rfl, ⟨_, .inl (.inl hpa)⟩, fun nA nnA => ?_⟩
  refine lc_ents (J := Itt K pa) (gs := es) (ex := D.ex) (fun e => .str e.id) (fun _ => true) (walks_tup hpa nnA) nnA hxs (by omega) (fun e x H2 Q2 hm k2 r2 q2 => q2 H2 Kp.refl) (fun e x H2 Q2 hm hp k2 r2 q2 => ?_) (fun Hn zs kn en rn => ?_) fun x => wipe_one _ _ _
  · obtain ⟨d1', ed1, hd1, _⟩ := ent_reads e
    exact ⟨_, rfl, c_of (ent_ix r2 ed1 hd1 rfl fun vi ri => q2 vi H2 Kp.refl ri)⟩
  have ez : zs = (es.map Ent.id).map V.str := by
    have h1 : es.filter (fun _ => true) = es := by simp
    rw [h1] at rn
    have h2 : es.map (fun e => PyData.str e.id) = (es.map Ent.id).map PyData.str := by rw [List.map_map]; rfl
    rw [h2] at rn
    exact strs_of rn
  rw [ez] at en
  have kn' : Kp [] H Hn := Kp.drop kn nnA
  have dN := dr.keep kn'
  clear rn ez kn
  refine ⟨by show 2 ≤ sizeLine; omega, fun l2 nl2 => ?_⟩
  have kl2 : Kp [] Hn (upd Hn l2 (.lst [V.str "", V.str "no"])) := Kp.laid nl2
  refine ⟨nA, l2, _, _, rfl, rfl, kl2 _ _ (by simp) en, upd_same, by show _ + 2 ≤ sizeLine; rw [List.length_map, List.length_map]; omega, fun nB nnB => ?_⟩
  have dl2 := dN.keep kl2
  have kB : Kp [] _ (upd (upd Hn l2 (.lst [V.str "", V.str "no"])) nB (.lst ((es.map Ent.id).map V.str ++ [V.str "", V.str "no"]))) := Kp.laid nnB
  have nBD := dl2.fresh nnB
  have hB : (upd (upd Hn l2 (.lst [V.str "", V.str "no"])) nB (.lst ((es.map Ent.id).map V.str ++ [V.str "", V.str "no"]))) nB = some (.lst ((es.map Ent.id).map V.str ++ [V.str "", V.str "no"])) := upd_same
  have dB := dl2.keep kB
  have k0B : Kp [] H _ := (kn'.trans kl2).trans kB
  obtain ⟨HB, eB⟩ : ∃ HB, upd (upd Hn l2 (.lst [V.str "", V.str "no"])) nB (.lst ((es.map Ent.id).map V.str ++ [V.str "", V.str "no"])) = HB := ⟨_, rfl⟩
  rw [eB] at kB hB dB k0B ⊢
  refine ⟨_, rfl, _, rfl, D, n + 19, nB, _, rfl, SqL.of hB, by simp, by rw [List.length_append, List.length_map, List.length_map]; simp; omega, Dr.sub nBD, dB.less (by omega), fun i1 y1 H1 hy1 k1 d1 => ?_⟩
  obtain ⟨name, rfl, wname⟩ : ∃ z, y1 = .str z ∧ Wd z := by
    have hm := List.mem_of_getElem? hy1
    rcases List.mem_append.mp hm with h | h
    · obtain ⟨z, hz, rfl⟩ := List.mem_map.mp h
      obtain ⟨e, he, rfl⟩ := List.mem_map.mp hz
      have := word_len (hok.ok e he).idb
      exact ⟨_, rfl, by have := this.1; omega, this.2⟩
    · simp only [List.mem_cons, List.not_mem_nil, or_false] at h
      rcases h with h | h
      · exact ⟨"", h, by decide, by decide +kernel⟩
      · exact ⟨"no", h, by decide, by decide +kernel⟩
  have hc1 := k1 _ _ (Dr.sub hcD) (k0B _ _ (by simp) hc)
  refine ⟨_, rfl, _, rfl, by show 1 ≤ sizeLine; omega, fun l3 nl3 => ?_⟩
  have kl3 : Kp [] H1 (upd H1 l3 (.lst [V.str "none"])) := Kp.laid nl3
  refine ⟨c, l3, _, _, rfl, rfl, kl3 _ _ (by simp) hc1, upd_same, by show _ + 1 ≤ sizeLine; rw [List.length_map]; omega, fun nC nnC => ?_⟩
  have dl3 := d1.keep kl3
  have kC : Kp [] _ (upd (upd H1 l3 (.lst [V.str "none"])) nC (.lst (ys.map V.str ++ [V.str "none"]))) := Kp.laid nnC
  have nCD := dl3.fresh nnC
  have hC : (upd (upd H1 l3 (.lst [V.str "none"])) nC (.lst (ys.map V.str ++ [V.str "none"]))) nC = some (.lst (ys.map V.str ++ [V.str "none"])) := upd_same
  have dC := dl3.keep kC
  have k1C : Kp D.ex H _ := ((upk k0B).trans k1).trans (upk (kl3.trans kC))
  obtain ⟨HC, eC⟩ : ∃ HC, upd (upd H1 l3 (.lst [V.str "none"])) nC (.lst (ys.map V.str ++ [V.str "none"])) = HC := ⟨_, rfl⟩
  rw [eC] at kC hC dC k1C ⊢
  refine ⟨D, n + 18, nC, _, rfl, SqL.of hC, by simp, by rw [List.length_append, List.length_map]; simp; omega, Dr.sub nCD, dC.less (by omega), fun i2 y2 H2 hy2 k2 d2 => ?_⟩
  obtain ⟨spot, rfl, wspot⟩ : ∃ z, y2 = .str z ∧ Wd z := by
    have hm := List.mem_of_getElem? hy2
    rcases List.mem_append.mp hm with h | h
    · obtain ⟨z, hz, rfl⟩ := List.mem_map.mp h
      exact ⟨z, rfl, hys z hz⟩
    · exact ⟨"none", by simpa using h, by decide, by decide +kernel⟩
  refine ⟨_, _, rfl, ?_⟩
  have k02 : Kp D.ex H H2 := k1C.trans k2
  -- the step
  refine ⟨_, rfl, _, rfl, _, rfl, by show 2 ≤ sizeLine; omega, fun t0 nt0 => ⟨by show 1 ≤ sizeLine; omega, fun l4 nl4 => ?_⟩⟩
  have kt0 : Kp [] H2 (upd H2 t0 (.tup [V.str name, V.str spot])) := Kp.laid nt0
  have t0D := d2.fresh nt0
  have dt0 := d2.keep kt0
  have r0 : Rp D.ex (upd H2 t0 (.tup [V.str name, V.str spot])) (.tuple [.str name, .str spot]) (.ref t0) := rp_new (Dr.sub t0D) nt0 ⟨_, _, rfl, rfl, _, _, rfl, rfl, rfl⟩
  have kl4 : Kp [] _ (upd (upd H2 t0 (.tup [V.str name, V.str spot])) l4 (.lst [.ref t0])) := Kp.laid nl4
  have dl4 := dt0.keep kl4
  have r0' := Rp.keep (upk kl4) _ _ r0
  have hl4 : (upd (upd H2 t0 (.tup [V.str name, V.str spot])) l4 (.lst [.ref t0])) l4 = some (.lst [.ref t0]) := upd_same
  have k24 := kt0.trans kl4
  obtain ⟨H4, e4⟩ : ∃ H4, upd (upd H2 t0 (.tup [V.str name, V.str spot])) l4 (.lst [.ref t0]) = H4 := ⟨_, rfl⟩
  rw [e4] at dl4 r0' hl4 k24 ⊢
  refine ⟨l4, _, [.ref t0], rfl, rfl, hl4, by decide, by decide, by show ((List.replicate 8 [V.ref t0]).flatten).length ≤ sizeLine; exact (by decide : (8 : Nat) ≤ sizeLine), fun l5 nl5 => ?_⟩
  have kl5 : Kp [] H4 (upd H4 l5 (.lst (List.replicate 8 [V.ref t0]).flatten)) := Kp.laid nl5
  have hl5 : (upd H4 l5 (.lst (List.replicate 8 [V.ref t0]).flatten)) l5 = some (.lst (List.replicate 8 [V.ref t0]).flatten) := upd_same
  have dl5 := dl4.keep kl5
  have k25 := k24.trans kl5
  have r0b := Rp.keep (upk kl5) _ _ r0'
  obtain ⟨G0, eg0⟩ : ∃ G0, upd H4 l5 (.lst (List.replicate 8 [V.ref t0]).flatten) = G0 := ⟨_, rfl⟩
  have eg0' : upd H4 l5 (.lst (List.replicate (8 : Int).toNat [V.ref t0]).flatten) = G0 := eg0
  rw [eg0'] 
  rw [eg0] at kl5 hl5 dl5 k25 r0b
  have kg0 : Kp [] G0 G0 := Kp.refl
  have dg0 := dl5
  refine ⟨_, rfl, by show 1 ≤ sizeLine; omega, fun a1 na1 => ?_⟩
  have a1D := dg0.fresh na1
  have qa1 : Kp [] G0 (upd G0 a1 (.lst [V.str name])) := Kp.laid na1
  have ra1 : Rp D.ex (upd G0 a1 (.lst [V.str name])) (.list [.str name]) (.ref a1) := rp_newL (Dr.sub a1D) na1 ⟨_, _, rfl, rfl, rfl⟩
  obtain ⟨G1, eg1⟩ : ∃ G1, upd G0 a1 (.lst [V.str name]) = G1 := ⟨_, rfl⟩
  rw [eg1] at qa1 ra1 ⊢
  have dg1 := dg0.keep qa1
  have kg1 := kg0.trans qa1
  refine ⟨_, rfl, by show 2 ≤ sizeLine; omega, fun a2 na2 => ?_⟩
  have a2D := dg1.fresh na2
  have qa2 : Kp [] G1 (upd G1 a2 (.tup [.ref a1, V.str spot])) := Kp.laid na2
  have ra2 : Rp D.ex (upd G1 a2 (.tup [.ref a1, V.str spot])) (.tuple [.list [.str name], .str spot]) (.ref a2) := rp_new (Dr.sub a2D) na2 ⟨_, _, rfl, (Rp.keep (upk Kp.refl) _ _ ra1), _, _, rfl, rfl, rfl⟩
  obtain ⟨G2, eg2⟩ : ∃ G2, upd G1 a2 (.tup [.ref a1, V.str spot]) = G2 := ⟨_, rfl⟩
  rw [eg2] at qa2 ra2 ⊢
  have dg2 := dg1.keep qa2
  have kg2 := kg1.trans qa2
  refine ⟨_, rfl, fun a3 na3 => ?_⟩
  have a3D := dg2.fresh na3
  have qa3 : Kp [] G2 (upd G2 a3 (.dK [])) := Kp.laid na3
  have ra3 : Rp D.ex (upd G2 a3 (.dK [])) (.dict []) (.ref a3) := ⟨rfl, a3, rfl, Dr.sub a3D, upd_same⟩
  obtain ⟨G3, eg3⟩ : ∃ G3, upd G2 a3 (.dK []) = G3 := ⟨_, rfl⟩
  rw [eg3] at qa3 ra3 ⊢
  have dg3 := dg2.keep qa3
  have kg3 := kg2.trans qa3
  refine ⟨by show 2 ≤ sizeLine; omega, fun a4 na4 => ?_⟩
  have a4D := dg3.fresh na4
  have qa4 : Kp [] G3 (upd G3 a4 (.tup [V.str name, .ref a3])) := Kp.laid na4
  have ra4 : Rp D.ex (upd G3 a4 (.tup [V.str name, .ref a3])) (.tuple [.str name, .dict []]) (.ref a4) := rp_new (Dr.sub a4D) na4 ⟨_, _, rfl, rfl, _, _, rfl, ra3, rfl⟩
  obtain ⟨G4, eg4⟩ : ∃ G4, upd G3 a4 (.tup [V.str name, .ref a3]) = G4 := ⟨_, rfl⟩
  rw [eg4] at qa4 ra4 ⊢
  have dg4 := dg3.keep qa4
  have kg4 := kg3.trans qa4
  refine ⟨_, rfl, by show 1 ≤ sizeLine; omega, fun a5 na5 => ?_⟩
  have a5D := dg4.fresh na5
  have qa5 : Kp [] G4 (upd G4 a5 (.tup [V.str name])) := Kp.laid na5
  have ra5 : Rp D.ex (upd G4 a5 (.tup [V.str name])) (.tuple [.str name]) (.ref a5) := rp_new (Dr.sub a5D) na5 ⟨_, _, rfl, rfl, rfl⟩
  obtain ⟨G5, eg5⟩ : ∃ G5, upd G4 a5 (.tup [V.str name]) = G5 := ⟨_, rfl⟩
  rw [eg5] at qa5 ra5 ⊢
  have dg5 := dg4.keep qa5
  have kg5 := kg4.trans qa5
  refine ⟨_, rfl, _, rfl, _, rfl, by show 3 ≤ sizeLine; omega, fun a6 na6 => ?_⟩
  have a6D := dg5.fresh na6
  have qa6 : Kp [] G5 (upd G5 a6 (.tup [V.str name, V.str spot, V.str spot])) := Kp.laid na6
  have ra6 : Rp D.ex (upd G5 a6 (.tup [V.str name, V.str spot, V.str spot])) (.tuple [.str name, .str spot, .str spot]) (.ref a6) := rp_new (Dr.sub a6D) na6 ⟨_, _, rfl, rfl, _, _, rfl, rfl, _, _, rfl, rfl, rfl⟩
  obtain ⟨G6, eg6⟩ : ∃ G6, upd G5 a6 (.tup [V.str name, V.str spot, V.str spot]) = G6 := ⟨_, rfl⟩
  rw [eg6] at qa6 ra6 ⊢
  have dg6 := dg5.keep qa6
  have kg6 := kg5.trans qa6
  refine ⟨_, rfl, _, rfl, by show 2 ≤ sizeLine; omega, fun a7 na7 => ?_⟩
  have a7D := dg6.fresh na7
  have qa7 : Kp [] G6 (upd G6 a7 (.lst [V.str name, V.str spot])) := Kp.laid na7
  have ra7 : Rp D.ex (upd G6 a7 (.lst [V.str name, V.str spot])) (.list [.str name, .str spot]) (.ref a7) := rp_newL (Dr.sub a7D) na7 ⟨_, _, rfl, rfl, _, _, rfl, rfl, rfl⟩
  obtain ⟨G7, eg7⟩ : ∃ G7, upd G6 a7 (.lst [V.str name, V.str spot]) = G7 := ⟨_, rfl⟩
  rw [eg7] at qa7 ra7 ⊢
  have dg7 := dg6.keep qa7
  have kg7 := kg6.trans qa7
  refine ⟨by show 5 ≤ sizeLine; omega, fun l6 nl6 => ?_⟩
  have q6 : Kp [] G7 (upd G7 l6 (.lst [.ref a2, .ref a4, .ref a5, .ref a6, .ref a7])) := Kp.laid nl6
  have h6' : (upd G7 l6 (.lst [.ref a2, .ref a4, .ref a5, .ref a6, .ref a7])) l6 = some (.lst [.ref a2, .ref a4, .ref a5, .ref a6, .ref a7]) := upd_same
  obtain ⟨G8, eg8⟩ : ∃ G8, upd G7 l6 (.lst [.ref a2, .ref a4, .ref a5, .ref a6, .ref a7]) = G8 := ⟨_, rfl⟩
  rw [eg8] at q6 h6' ⊢
  have dg8 := dg7.keep q6
  have kg8 := kg7.trans q6
  refine ⟨l5, l6, _, _, rfl, rfl, kg8 _ _ (by simp) hl5, h6', by show ((List.replicate 8 [V.ref t0]).flatten).length + 5 ≤ sizeLine; exact (by decide : (13 : Nat) ≤ sizeLine), fun l7 nl7 => ?_⟩
  have q7 : Kp [] G8 (upd G8 l7 (.lst ((List.replicate 8 [V.ref t0]).flatten ++ [.ref a2, .ref a4, .ref a5, .ref a6, .ref a7]))) := Kp.laid nl7
  have h7 : (upd G8 l7 (.lst ((List.replicate 8 [V.ref t0]).flatten ++ [.ref a2, .ref a4, .ref a5, .ref a6, .ref a7]))) l7 = some (.lst ((List.replicate 8 [V.ref t0]).flatten ++ [.ref a2, .ref a4, .ref a5, .ref a6, .ref a7])) := upd_same
  have l7D := dg8.fresh nl7
  obtain ⟨G9, eg9⟩ : ∃ G9, upd G8 l7 (.lst ((List.replicate 8 [V.ref t0]).flatten ++ [.ref a2, .ref a4, .ref a5, .ref a6, .ref a7])) = G9 := ⟨_, rfl⟩
  rw [eg9] at q7 h7 ⊢
  have dg9 := dg8.keep q7
  have kg9 := kg8.trans q7
  refine ⟨D, n + 17, l7, _, rfl, SqL.of h7, by simp, by rw [List.length_append]; exact (by decide : (8 + 5 : Nat) < 1073741824), Dr.sub l7D, dg9.less (by omega), fun i3 stp H5 hy3 k3 d3 => ?_⟩
  have k05 : Kp D.ex H H5 := (k02.trans (upk (k25.trans kg9))).trans k3
  have hstp : ∃ d, Rp D.ex H5 d stp ∧ ItB d := by
    have sn := wname.s
    have ss := wspot.s
    have one : ∀ x ∈ [PyData.str name], niceD x = true ∧ x.depth ≤ 1 ∧ vol x ≤ 96 := fun x hx => by rw [List.mem_singleton.mp hx]; exact sn
    have two : ∀ x ∈ [PyData.str name, PyData.str spot], niceD x = true ∧ x.depth ≤ 1 ∧ vol x ≤ 96 := fun x hx => by
      rcases List.mem_cons.mp hx with rfl | hx
      · exact sn
      · rw [List.mem_singleton.mp hx]; exact ss
    have hm := List.mem_of_getElem? hy3
    rcases List.mem_append.mp hm with h | h
    · have h : stp = .ref t0 := by
        obtain ⟨l, hl, hs⟩ := List.mem_flatten.mp h
        rw [(List.mem_replicate.mp hl).2] at hs
        exact List.mem_singleton.mp hs
      rw [h]
      exact ⟨_, Rp.keep ((upk kg9).trans k3) _ _ r0b, small_it two (by simp) (.inl rfl)⟩
    · simp only [List.mem_cons, List.not_mem_nil, or_false] at h
      rcases h with h | h | h | h | h
      · rw [h]
        refine ⟨_, Rp.keep ((upk ((((((qa3.trans qa4).trans qa5).trans qa6).trans qa7).trans q6).trans q7)).trans k3) _ _ ra2, ?_⟩
        obtain ⟨s1, s2, s3⟩ := sn
        refine ⟨?_, ?_, ?_⟩
        · obtain ⟨t1, _, _⟩ := ss
          simp only [niceD, niceAll, Bool.and_eq_true] at s1 t1 ⊢
          exact ⟨⟨s1, trivial⟩, t1, trivial⟩
        · obtain ⟨_, t2, _⟩ := ss
          simp only [PyData.depth, PyData.depthAll]
          omega
        · obtain ⟨_, _, t3⟩ := ss
          simp only [vol, volAll] at s3 t3 ⊢
          omega
      · rw [h]
        refine ⟨_, Rp.keep ((upk ((((qa5.trans qa6).trans qa7).trans q6).trans q7)).trans k3) _ _ ra4, small_it (ds := [.str name, .dict []]) (fun x hx => ?_) (by simp) (.inl rfl)⟩
        rcases List.mem_cons.mp hx with rfl | hx
        · exact sn
        · rw [List.mem_singleton.mp hx]; exact ⟨by decide +kernel, by decide +kernel, by decide +kernel⟩
      · rw [h]
        exact ⟨_, Rp.keep ((upk (((qa6.trans qa7).trans q6).trans q7)).trans k3) _ _ ra5, small_it one (by simp) (.inl rfl)⟩
      · rw [h]
        refine ⟨_, Rp.keep ((upk ((qa7.trans q6).trans q7)).trans k3) _ _ ra6, small_it (ds := [.str name, .str spot, .str spot]) (fun x hx => ?_) (by simp) (.inl rfl)⟩
        rcases List.mem_cons.mp hx with rfl | hx
        · exact sn
        · rcases List.mem_cons.mp hx with rfl | hx
          · exact ss
          · rw [List.mem_singleton.mp hx]; exact ss
      · rw [h]
        exact ⟨_, Rp.keep ((upk (q6.trans q7)).trans k3) _ _ ra7, small_it two (by simp) (.inr rfl)⟩
  obtain ⟨dS, rS, iS⟩ := hstp
  have hR5 := k05 _ _ nR hR0
  have hus5 := RpAll.keep k05 _ _ hus0
  have ulen := hus5.length
  rw [List.length_map] at ulen
  have items : ∀ d ∈ p.map stepD, ItB d := fun d hd => by
    obtain ⟨s, hs, rfl⟩ := List.mem_map.mp hd
    exact step_it (hpw s hs).1 (hpw s hs).2
  refine ⟨_, rfl, _, rfl, R, us, rfl, .inr (.inl (.inl hR5)), _, 1, rfl, rfl, D, n + 16, _, rfl, by omega, by omega, d3.less (by omega), fun i4 H6 i40 i41 k4 d4 => ?_⟩
  obtain ⟨at_, rfl⟩ := Int.eq_ofNat_of_zero_le i40
  have hat : at_ ≤ us.length := by omega
  refine ⟨_, rfl, D, n + 15, 7, rfl, by decide, by decide, d4.less (by omega), fun w H7 w0 w1 k5 d5 => ?_⟩
  obtain ⟨way, rfl⟩ := Int.eq_ofNat_of_zero_le w0
  refine ⟨_, _, rfl, ?_⟩
  have k57 := k4.trans k5
  have k07 := k05.trans k57
  have hR := k57 _ _ nR hR5
  have hus := RpAll.keep k57 _ _ hus5
  have rS7 := Rp.keep k57 _ _ rS
  have d7 : DrAt D (n + 1) H7 := d5.less (by omega)
  have fr : ∀ {Hx : Hp}, Kp [] H7 Hx → ∀ b, Hx b = none → b ∉ D.ex := fun k b hb => Dr.sub ((d7.keep k).fresh hb)
  have done : ∀ (y : V) (Hx : Hp), Kp [] H7 Hx → AnyV D.ex Hx y → Q y Hx := fun y Hx k h => q y Hx h (k07.trans (upk k)) ((d7.keep k).less (by omega))
  have tupV : ∀ {Hx : Hp} {b : Addr} {vs : List V} {ds : List PyData}, Hx b = some (.tup vs) → b ∉ D.ex → RpAll D.ex Hx ds vs → (∀ d ∈ ds, ItB d) → ds.length ≤ 9 → AnyV D.ex Hx (.ref b) := fun h1 h2 h3 h4 h5 => ⟨.tuple _, ⟨_, _, rfl, h2, h1, h3⟩, items_tup h4 h5⟩
  have mem_take : ∀ (m : Nat) (d : PyData), d ∈ (p.map stepD).take m → ItB d := fun m d hd => items d (List.mem_of_mem_take hd)
  have mem_drop : ∀ (m : Nat) (d : PyData), d ∈ (p.map stepD).drop m → ItB d := fun m d hd => items d (List.mem_of_mem_drop hd)
  have plen : (p.map stepD).length = p.length := List.length_map _
  have tail1 : ∀ {Hx : Hp} {b : Addr} {vs : List V}, Kp [] H7 Hx → Hx b = some (.tup vs) → b ∉ D.ex → RpAll D.ex Hx ((p.map stepD).take at_) vs → True := fun _ _ _ _ => trivial
  -- the last item
  obtain ⟨ul, hul, rul⟩ := RpAll.at hus (show (p.map stepD)[p.length - 1]? = some (stepD (p[p.length - 1]'(by omega))) by rw [List.getElem?_map, List.getElem?_eq_getElem (by omega)]; rfl)
  obtain ⟨sL, esL⟩ : ∃ sL, p[p.length - 1]'(by omega) = sL := ⟨_, rfl⟩
  have msL : sL ∈ p := by rw [← esL]; exact List.getElem_mem _
  rw [esL] at rul
  have hend : us[us.length - 1]? = some ul := by rw [← ulen]; exact hul
  refine ⟨_, rfl, rfl, _, rfl, ?_⟩
  by_cases h0 : way = 0
  · subst h0
    rw [show decide (V.int ((0 : Nat) : Int) = V.int 0) = true from decide_eq_true rfl]
    refine iteT ?_
    have z0 : Kp [] H7 H7 := Kp.refl
    refine ⟨_, rfl, by show 0 ≤ sizeLine; omega, fun e1 ne1 => ?_⟩
    have qe1 : Kp [] H7 (upd H7 e1 (.tup [])) := Kp.laid ne1
    have he1 : (upd H7 e1 (.tup [])) e1 = some (.tup []) := upd_same
    have xe1 := fr z0 e1 ne1
    have z1 := z0.trans qe1
    obtain ⟨Z1, ez1⟩ : ∃ Z1, upd H7 e1 (.tup []) = Z1 := ⟨_, rfl⟩
    rw [ez1] at qe1 he1 z1 ⊢
    refine ⟨by show 0 ≤ sizeLine; omega, fun e2 ne2 => ?_⟩
    have qe2 : Kp [] Z1 (upd Z1 e2 (.lst [])) := Kp.laid ne2
    have he2 : (upd Z1 e2 (.lst [])) e2 = some (.lst []) := upd_same
    have xe2 := fr z1 e2 ne2
    have z2 := z1.trans qe2
    obtain ⟨Z2, ez2⟩ : ∃ Z2, upd Z1 e2 (.lst []) = Z2 := ⟨_, rfl⟩
    rw [ez2] at qe2 he2 z2 ⊢
    refine ⟨_, rfl, R, us, rfl, .inr (.inl (.inl (z2 _ _ (by simp) hR))), fun e3 ne3 => ?_⟩
    have qe3 : Kp [] Z2 (upd Z2 e3 (.lst us)) := Kp.laid ne3
    have he3 : (upd Z2 e3 (.lst us)) e3 = some (.lst us) := upd_same
    have xe3 := fr z2 e3 ne3
    have z3 := z2.trans qe3
    obtain ⟨Z3, ez3⟩ : ∃ Z3, upd Z2 e3 (.lst us) = Z3 := ⟨_, rfl⟩
    rw [ez3] at qe3 he3 z3 ⊢
    refine ⟨_, rfl, 1, rfl, R, us, -1, ul, rfl, rfl, .inl (.inl (z3 _ _ (by simp) hR)), atI_end hend, fun e4 ne4 => ?_⟩
    have qe4 : Kp [] Z3 (upd Z3 e4 (.dK [])) := Kp.laid ne4
    have he4 : (upd Z3 e4 (.dK [])) e4 = some (.dK []) := upd_same
    have xe4 := fr z3 e4 ne4
    have z4 := z3.trans qe4
    obtain ⟨Z4, ez4⟩ : ∃ Z4, upd Z3 e4 (.dK []) = Z4 := ⟨_, rfl⟩
    rw [ez4] at qe4 he4 z4 ⊢
    refine ⟨by show 1 ≤ sizeLine; omega, fun e5 ne5 => ?_⟩
    have qe5 : Kp [] Z4 (upd Z4 e5 (.tup [V.non])) := Kp.laid ne5
    have he5 : (upd Z4 e5 (.tup [V.non])) e5 = some (.tup [V.non]) := upd_same
    have xe5 := fr z4 e5 ne5
    have z5 := z4.trans qe5
    obtain ⟨Z5, ez5⟩ : ∃ Z5, upd Z4 e5 (.tup [V.non]) = Z5 := ⟨_, rfl⟩
    rw [ez5] at qe5 he5 z5 ⊢
    refine ⟨_, rfl, by show 1 ≤ sizeLine; omega, fun e6 ne6 => ?_⟩
    have qe6 : Kp [] Z5 (upd Z5 e6 (.tup [V.str ""])) := Kp.laid ne6
    have he6 : (upd Z5 e6 (.tup [V.str ""])) e6 = some (.tup [V.str ""]) := upd_same
    have xe6 := fr z5 e6 ne6
    have z6 := z5.trans qe6
    obtain ⟨Z6, ez6⟩ : ∃ Z6, upd Z5 e6 (.tup [V.str ""]) = Z6 := ⟨_, rfl⟩
    rw [ez6] at qe6 he6 z6 ⊢
    refine ⟨by show 1 ≤ sizeLine; omega, fun e7 ne7 => ?_⟩
    have qe7 : Kp [] Z6 (upd Z6 e7 (.tup [.ref e6])) := Kp.laid ne7
    have he7 : (upd Z6 e7 (.tup [.ref e6])) e7 = some (.tup [.ref e6]) := upd_same
    have xe7 := fr z6 e7 ne7
    have z7 := z6.trans qe7
    obtain ⟨Z7, ez7⟩ : ∃ Z7, upd Z6 e7 (.tup [.ref e6]) = Z7 := ⟨_, rfl⟩
    rw [ez7] at qe7 he7 z7 ⊢
    refine catA (z7 _ _ (by simp) hR) he7 nR xe7 (fr z7) (by show us.length + 1 ≤ _; omega) fun e8 Z8 qe8 he8 xe8 => ?_
    have z8 := z7.trans qe8
    refine ⟨_, rfl, by show 1 ≤ sizeLine; omega, fun e9 ne9 => ?_⟩
    have qe9 : Kp [] Z8 (upd Z8 e9 (.tup [V.str "a"])) := Kp.laid ne9
    have he9 : (upd Z8 e9 (.tup [V.str "a"])) e9 = some (.tup [V.str "a"]) := upd_same
    have xe9 := fr z8 e9 ne9
    have z9 := z8.trans qe9
    obtain ⟨Z9, ez9⟩ : ∃ Z9, upd Z8 e9 (.tup [V.str "a"]) = Z9 := ⟨_, rfl⟩
    rw [ez9] at qe9 he9 z9 ⊢
    refine catA (z9 _ _ (by simp) hR) he9 nR xe9 (fr z9) (by show us.length + 1 ≤ _; omega) fun e10 Z10 qe10 he10 xe10 => ?_
    have z10 := z9.trans qe10
    refine ⟨by show 11 ≤ sizeLine; omega, fun e11 ne11 => ?_⟩
    have qe11 : Kp [] Z10 (upd Z10 e11 (.lst [V.non, V.str "", .ref e1, .ref e2, .ref e3, ul, .ref e4, V.int 5, .ref e5, .ref e8, .ref e10])) := Kp.laid ne11
    have he11 : (upd Z10 e11 (.lst [V.non, V.str "", .ref e1, .ref e2, .ref e3, ul, .ref e4, V.int 5, .ref e5, .ref e8, .ref e10])) e11 = some (.lst [V.non, V.str "", .ref e1, .ref e2, .ref e3, ul, .ref e4, V.int 5, .ref e5, .ref e8, .ref e10]) := upd_same
    have xe11 := fr z10 e11 ne11
    have z11 := z10.trans qe11
    obtain ⟨Z11, ez11⟩ : ∃ Z11, upd Z10 e11 (.lst [V.non, V.str "", .ref e1, .ref e2, .ref e3, ul, .ref e4, V.int 5, .ref e5, .ref e8, .ref e10]) = Z11 := ⟨_, rfl⟩
    rw [ez11] at qe11 he11 z11 ⊢
    refine ⟨D, n, e11, _, rfl, SqL.of he11, by show 0 < 11; decide, by show 11 < 1073741824; decide, xe11, (d7.keep z11).less (by omega), fun m y Hz hm kz dz => ?_⟩
    have k7z : Kp D.ex H7 Hz := (upk z11).trans kz
    refine q y Hz ?_ (k07.trans k7z) dz
    have husZ := RpAll.keep k7z _ _ hus
    have at1 : ∀ {b : Addr} {o : HO} {Hx : Hp}, Hx b = some o → b ∉ D.ex → Kp [] Hx Z11 → Hz b = some o := fun h1 h2 k => kz _ _ h2 (k _ _ (by simp) h1)
    have hm := List.mem_of_getElem? hm
    simp only [List.mem_cons, List.not_mem_nil, or_false] at hm
    rcases hm with h | h | h | h | h | h | h | h | h | h | h
    · rw [h]; exact ⟨.none, rfl, rfl, by decide +kernel, by decide +kernel⟩
    · rw [h]; exact ⟨.str "", rfl, by decide +kernel, by decide +kernel, by decide +kernel⟩
    · rw [h]; exact ⟨.tuple [], ⟨e1, _, rfl, xe1, at1 he1 xe1 ((((((qe2.trans qe3).trans qe4).trans qe5).trans qe6).trans qe7).trans (((qe8.trans qe9).trans qe10).trans qe11)), rfl⟩, by decide +kernel, by decide +kernel, by decide +kernel⟩
    · rw [h]; exact ⟨.list [], ⟨e2, _, rfl, xe2, at1 he2 xe2 (((((qe3.trans qe4).trans qe5).trans qe6).trans qe7).trans (((qe8.trans qe9).trans qe10).trans qe11)), rfl⟩, by decide +kernel, by decide +kernel, by decide +kernel⟩
    · rw [h]; exact ⟨.list (p.map stepD), ⟨e3, _, rfl, xe3, at1 he3 xe3 ((((qe4.trans qe5).trans qe6).trans qe7).trans (((qe8.trans qe9).trans qe10).trans qe11)), husZ⟩, items_lst items (by rw [plen]; omega)⟩
    · rw [h]; exact ⟨_, Rp.keep k7z _ _ rul, (items _ (List.mem_map.mpr ⟨sL, msL, rfl⟩)).any⟩
    · rw [h]; exact ⟨.dict [], ⟨rfl, e4, rfl, xe4, at1 he4 xe4 (((qe5.trans qe6).trans qe7).trans (((qe8.trans qe9).trans qe10).trans qe11))⟩, by decide +kernel, by decide +kernel, by decide +kernel⟩
    · rw [h]; exact ⟨.int 5, rfl, by decide +kernel, by decide +kernel, by decide +kernel⟩
    · rw [h]; exact ⟨.tuple [.none], ⟨e5, _, rfl, xe5, at1 he5 xe5 ((qe6.trans qe7).trans (((qe8.trans qe9).trans qe10).trans qe11)), .non, [], rfl, rfl, rfl⟩, by decide +kernel, by decide +kernel, by decide +kernel⟩
    · rw [h]
      have i6 : ItB (.tuple [.str ""]) := ⟨by decide +kernel, by decide +kernel, by decide +kernel⟩
      have r6 : Rp D.ex Hz (.tuple [.str ""]) (.ref e6) := ⟨e6, _, rfl, xe6, at1 he6 xe6 (qe7.trans (((qe8.trans qe9).trans qe10).trans qe11)), .str "", [], rfl, rfl, rfl⟩
      refine tupV (ds := p.map stepD ++ [.tuple [.str ""]]) (at1 he8 xe8 ((qe9.trans qe10).trans qe11)) xe8 (husZ.app (RpAll.one r6)) (fun d hd => ?_) (by rw [List.length_append, plen]; show _ + 1 ≤ 9; omega)
      rcases List.mem_append.mp hd with h | h
      · exact items d h
      · rw [List.mem_singleton.mp h]; exact i6
    · rw [h]
      have i9 : ItB (.str "a") := ⟨by decide +kernel, by decide +kernel, by decide +kernel⟩
      refine tupV (ds := p.map stepD ++ [.str "a"]) (at1 he10 xe10 qe11) xe10 (husZ.app (RpAll.one (d := .str "a") rfl)) (fun d hd => ?_) (by rw [List.length_append, plen]; show _ + 1 ≤ 9; omega)
      rcases List.mem_append.mp hd with h | h
      · exact items d h
      · rw [List.mem_singleton.mp h]; exact i9
  rw [decide_eq_false (fun h => by have := V.int.inj h; omega)]
  refine iteF ⟨_, rfl, rfl, _, rfl, ?_⟩
  by_cases h1 : way = 1
  · subst h1
    rw [show decide (V.int ((1 : Nat) : Int) = V.int 1) = true from decide_eq_true rfl]
    refine iteT ⟨_, rfl, _, rfl, _, rfl, slA hR nR (fr Kp.refl) fun b1 Ha ka hb1 nb1 => ?_⟩
    rw [cut_first us hat] at hb1
    have hRa := ka _ _ (by simp) hR
    refine ⟨_, rfl, _, rfl, _, 1, rfl, rfl, _, rfl, ?_⟩
    dsimp only [tNoPart]
    refine slA hRa nR (fr ka) fun b2 Hb kb hb2 nb2 => ?_
    rw [cut_after] at hb2
    have kab := ka.trans kb
    refine catA (kb _ _ (by simp) hb1) hb2 nb1 nb2 (fr kab) (by rw [List.length_take, List.length_drop]; omega) fun b3 Hc kc hb3 nb3 => ?_
    have kac := kab.trans kc
    have husC := RpAll.keep (upk kac) _ _ hus
    refine done _ Hc kac (tupV hb3 nb3 ((RpAll.cutT at_ husC).1.app (RpAll.cutT (at_ + 1) husC).2) (fun d hd => ?_) ?_)
    · exact (List.mem_append.mp hd).elim (mem_take _ d) (mem_drop _ d)
    · rw [List.length_append, List.length_take, List.length_drop, plen]; omega
  rw [decide_eq_false (fun h => by have := V.int.inj h; omega)]
  refine iteF ⟨_, rfl, rfl, _, rfl, ?_⟩
  by_cases h2 : way = 2
  · subst h2
    rw [show decide (V.int ((2 : Nat) : Int) = V.int 2) = true from decide_eq_true rfl]
    refine iteT ⟨_, rfl, _, rfl, _, rfl, slA hR nR (fr Kp.refl) fun b1 Ha ka hb1 nb1 => ?_⟩
    rw [cut_first us hat] at hb1
    refine ⟨_, rfl, by show 1 ≤ sizeLine; omega, fun b2 nb2 => ?_⟩
    have k2' : Kp [] Ha (upd Ha b2 (.tup [stp])) := Kp.laid nb2
    have hb2 : (upd Ha b2 (.tup [stp])) b2 = some (.tup [stp]) := upd_same
    have nb2x := fr ka b2 nb2
    have kab := ka.trans k2'
    obtain ⟨Hb, eHb⟩ : ∃ Hb, upd Ha b2 (.tup [stp]) = Hb := ⟨_, rfl⟩
    rw [eHb] at k2' hb2 kab ⊢
    refine catA (k2' _ _ (by simp) hb1) hb2 nb1 nb2x (fr kab) (by rw [List.length_take]; show _ + 1 ≤ _; omega) fun b3 Hc kc hb3 nb3 => ?_
    have kac := kab.trans kc
    refine ⟨_, rfl, _, rfl, _, rfl, ?_⟩
    dsimp only [tNoPart]
    refine slA (kac _ _ (by simp) hR) nR (fr kac) fun b4 Hd kd hb4 nb4 => ?_
    rw [cut_from] at hb4
    have kad := kac.trans kd
    refine catA (kd _ _ (by simp) hb3) hb4 nb3 nb4 (fr kad) (by rw [List.length_append, List.length_take, List.length_drop]; show _ + 1 + _ ≤ _; omega) fun b5 He ke hb5 nb5 => ?_
    have kae := kad.trans ke
    have husE := RpAll.keep (upk kae) _ _ hus
    refine done _ He kae (tupV hb5 nb5 (((RpAll.cutT at_ husE).1.app (RpAll.one (Rp.keep (upk kae) _ _ rS7))).app (RpAll.cutT at_ husE).2) (fun d hd => ?_) ?_)
    · rcases List.mem_append.mp hd with h | h
      · rcases List.mem_append.mp h with h | h
        · exact mem_take _ d h
        · rw [List.mem_singleton.mp h]; exact iS
      · exact mem_drop _ d h
    · rw [List.length_append, List.length_append, List.length_take, List.length_drop, plen]
      show _ + 1 + _ ≤ 9
      omega
  rw [decide_eq_false (fun h => by have := V.int.inj h; omega)]
  refine iteF ⟨_, rfl, rfl, _, rfl, ?_⟩
  by_cases h3 : way = 3
  · subst h3
    rw [show decide (V.int ((3 : Nat) : Int) = V.int 3) = true from decide_eq_true rfl]
    refine iteT ⟨_, rfl, 1, rfl, _, rfl, slA hR nR (fr Kp.refl) fun b1 Ha ka hb1 nb1 => ?_⟩
    rw [show (-(1 : Int)) = -1 from rfl, cut_init] at hb1
    have hRa := ka _ _ (by simp) hR
    refine ⟨_, rfl, 1, rfl, R, us, -1, ul, rfl, rfl, .inl (.inl hRa), atI_end hend, ?_⟩
    obtain ⟨sa, ss, rfl, nsa, hsa, hss⟩ := rul
    refine ⟨sa, ss, rfl, .inr (.inl (.inl (ka _ _ (by simp) hsa))), fun b2 nb2 => ?_⟩
    have k2' : Kp [] Ha (upd Ha b2 (.lst ss)) := Kp.laid nb2
    have rb2 : Rp D.ex (upd Ha b2 (.lst ss)) (.list [.str sL.1, .str sL.2]) (.ref b2) := rp_newL (fr ka b2 nb2) nb2 (RpAll.keep (upk ka) _ _ hss)
    have kab := ka.trans k2'
    obtain ⟨Hb, eHb⟩ : ∃ Hb, upd Ha b2 (.lst ss) = Hb := ⟨_, rfl⟩
    rw [eHb] at k2' rb2 kab ⊢
    refine ⟨by show 1 ≤ sizeLine; omega, fun b3 nb3 => ?_⟩
    have k3' : Kp [] Hb (upd Hb b3 (.tup [.ref b2])) := Kp.laid nb3
    have hb3 : (upd Hb b3 (.tup [.ref b2])) b3 = some (.tup [.ref b2]) := upd_same
    have nb3x := fr kab b3 nb3
    have kac := kab.trans k3'
    obtain ⟨Hc, eHc⟩ : ∃ Hc, upd Hb b3 (.tup [.ref b2]) = Hc := ⟨_, rfl⟩
    rw [eHc] at k3' hb3 kac ⊢
    refine catA ((k2'.trans k3') _ _ (by simp) hb1) hb3 nb1 nb3x (fr kac) (by rw [List.length_take]; show _ + 1 ≤ _; omega) fun b4 Hd kd hb4 nb4 => ?_
    have kad := kac.trans kd
    have husD := RpAll.keep (upk kad) _ _ hus
    have i2 : ItB (.list [.str sL.1, .str sL.2]) := small_it (ds := [.str sL.1, .str sL.2]) (fun x hx => by
      rcases List.mem_cons.mp hx with rfl | hx
      · exact (hpw sL msL).1.s
      · rw [List.mem_singleton.mp hx]; exact (hpw sL msL).2.s) (by simp) (.inr rfl)
    refine done _ Hd kad (tupV hb4 nb4 ((RpAll.cutT (us.length - 1) husD).1.app (RpAll.one (Rp.keep (upk (k3'.trans kd)) _ _ rb2))) (fun d hd => ?_) ?_)
    · rcases List.mem_append.mp hd with h | h
      · exact mem_take _ d h
      · rw [List.mem_singleton.mp h]; exact i2
    · rw [List.length_append, List.length_take, plen]
      show _ + 1 ≤ 9
      omega
  rw [decide_eq_false (fun h => by have := V.int.inj h; omega)]
  refine iteF ⟨_, rfl, _, rfl, _, rfl, slA hR nR (fr Kp.refl) fun b1 Ha ka hb1 nb1 => ?_⟩
  rw [cut_first us hat] at hb1
  refine ⟨_, rfl, by show 1 ≤ sizeLine; omega, fun b2 nb2 => ?_⟩
  have k2' : Kp [] Ha (upd Ha b2 (.tup [stp])) := Kp.laid nb2
  have hb2 : (upd Ha b2 (.tup [stp])) b2 = some (.tup [stp]) := upd_same
  have nb2x := fr ka b2 nb2
  have kab := ka.trans k2'
  obtain ⟨Hb, eHb⟩ : ∃ Hb, upd Ha b2 (.tup [stp]) = Hb := ⟨_, rfl⟩
  rw [eHb] at k2' hb2 kab ⊢
  refine catA (k2' _ _ (by simp) hb1) hb2 nb1 nb2x (fr kab) (by rw [List.length_take]; show _ + 1 ≤ _; omega) fun b3 Hc kc hb3 nb3 => ?_
  have kac := kab.trans kc
  refine ⟨_, rfl, _, rfl, _, 1, rfl, rfl, _, rfl, ?_⟩
  dsimp only [tNoPart]
  refine slA (kac _ _ (by simp) hR) nR (fr kac) fun b4 Hd kd hb4 nb4 => ?_
  rw [cut_after] at hb4
  have kad := kac.trans kd
  refine catA (kd _ _ (by simp) hb3) hb4 nb3 nb4 (fr kad) (by rw [List.length_append, List.length_take, List.length_drop]; show _ + 1 + _ ≤ _; omega) fun b5 He ke hb5 nb5 => ?_
  have kae := kad.trans ke
  have husE := RpAll.keep (upk kae) _ _ hus
  refine done _ He kae (tupV hb5 nb5 (((RpAll.cutT at_ husE).1.app (RpAll.one (Rp.keep (upk kae) _ _ rS7))).app (RpAll.cutT (at_ + 1) husE).2) (fun d hd => ?_) ?_)
  · rcases List.mem_append.mp hd with h | h
    · rcases List.mem_append.mp h with h | h
      · exact mem_take _ d h
      · rw [List.mem_singleton.mp h]; exact iS
    · exact mem_drop _ d h
  · rw [List.length_append, List.length_append, List.length_take, List.length_drop, plen]
    show _ + 1 + _ ≤ 9
    omega
end
end NV
/-! Shw -/
set_option Elab.async false
set_option linter.all false
set_option maxRecDepth 100000
set_option maxHeartbeats 1000000
/-! data that show as a path are that path -/
namespace NV
open PySem PySem.Spec PyProof.Rows L2
open PySem.Builtin.Str (reprChar)
abbrev sl (d : PyData) : List Nat := d.shown.cps.toList
theorem char_two {q c : Nat} : reprChar q c = [c] ∧ c ≠ q ∨ ∃ t, reprChar q c = 92 :: t := by
  by_cases h : 92 ∈ reprChar q c
  · refine .inr ?_
    unfold reprChar at h ⊢
    split
    · exact ⟨_, rfl⟩
    split
    · exact ⟨_, rfl⟩
    split
    · exact ⟨_, rfl⟩
    split
    · exact ⟨_, rfl⟩
    split
    · rename_i h1 h2 h3 h4 h5
      rw [if_neg h1, if_neg h2, if_neg h3, if_neg h4, if_pos h5] at h
      have : c = 92 := (List.mem_singleton.mp h).symm
      subst this
      exact ⟨[], rfl⟩
    split
    · exact ⟨_, rfl⟩
    split
    · exact ⟨_, rfl⟩
    · exact ⟨_, rfl⟩
  · refine .inl ⟨char_own h, fun z => ?_⟩
    subst z
    unfold reprChar at h
    rw [if_pos (by simp)] at h
    simp at h
/-- the text ends where the quote stands -/
theorem quote_end : ∀ {z x r r' : List Nat}, 92 ∉ x → 39 ∉ x → z.flatMap (reprChar 39) ++ 39 :: r = x ++ 39 :: r' → z = x ∧ r = r'
  | [], x, r, r', _, h39, h => by
    cases x with
    | nil =>
      have h : 39 :: r = 39 :: r' := h
      exact ⟨rfl, (List.cons.inj h).2⟩
    | cons b x =>
      have h : 39 :: r = b :: (x ++ 39 :: r') := h
      exact absurd (by rw [(List.cons.inj h).1]; exact List.mem_cons_self) h39
  | c :: z, x, r, r', h92, h39, h => by
    rw [List.flatMap_cons, List.append_assoc] at h
    rcases char_two (q := 39) (c := c) with ⟨e, hc⟩ | ⟨t, e⟩
    · rw [e] at h
      cases x with
      | nil =>
        have h : c :: (z.flatMap (reprChar 39) ++ 39 :: r) = 39 :: r' := h
        exact absurd (List.cons.inj h).1 hc
      | cons b x =>
        have h : c :: (z.flatMap (reprChar 39) ++ 39 :: r) = b :: (x ++ 39 :: r') := h
        obtain ⟨h1, h2⟩ := List.cons.inj h
        obtain ⟨h3, h4⟩ := quote_end (fun y => h92 (List.mem_cons_of_mem _ y)) (fun y => h39 (List.mem_cons_of_mem _ y)) h2
        exact ⟨by rw [h1, h3], h4⟩
    · rw [e] at h
      cases x with
      | nil =>
        have h : 92 :: (t ++ (z.flatMap (reprChar 39) ++ 39 :: r)) = 39 :: r' := h
        exact absurd (List.cons.inj h).1 (by decide)
      | cons b x =>
        have h : 92 :: (t ++ (z.flatMap (reprChar 39) ++ 39 :: r)) = b :: (x ++ 39 :: r') := h
        exact absurd (by rw [(List.cons.inj h).1]; exact List.mem_cons_self) h92
/-- the sign that each kind of data shows first -/
theorem first_sign (d : PyData) : (d = .none ∧ ∃ t, sl d = 78 :: t) ∨ ((∃ b, d = .bool b) ∧ ∃ c t, sl d = c :: t ∧ (c = 84 ∨ c = 70)) ∨ ((∃ i, d = .int i) ∧ 39 ∉ sl d ∧ 40 ∉ sl d ∧ sl d ≠ []) ∨ ((∃ z, d = .str z) ∧ ∃ c t, sl d = c :: t ∧ (c = 39 ∨ c = 34)) ∨ ((∃ l, d = .list l) ∧ ∃ t, sl d = 91 :: t) ∨ ((∃ l, d = .tuple l) ∧ ∃ t, sl d = 40 :: t) ∨ ((∃ l, d = .dict l) ∧ ∃ t, sl d = 123 :: t) := by
  cases d with
  | none => exact .inl ⟨rfl, [111, 110, 101], by show (PyData.none.shown).cps.toList = _; simp only [PyData.shown]; decide⟩
  | bool b =>
    refine .inr (.inl ⟨⟨b, rfl⟩, ?_⟩)
    cases b with
    | true => exact ⟨84, [114, 117, 101], by show ((PyData.bool true).shown).cps.toList = _; simp only [PyData.shown]; decide, .inl rfl⟩
    | false => exact ⟨70, [97, 108, 115, 101], by show ((PyData.bool false).shown).cps.toList = _; simp only [PyData.shown]; decide, .inr rfl⟩
  | int i =>
    refine .inr (.inr (.inl ⟨⟨i, rfl⟩, ?_, ?_, ?_⟩))
    · have := int_text_free' 39 ⟨by decide, by decide⟩ i
      show 39 ∉ ((PyData.int i).shown).cps.toList
      simp only [PyData.shown]
      exact this
    · have := int_text_free' 40 ⟨by decide, by decide⟩ i
      show 40 ∉ ((PyData.int i).shown).cps.toList
      simp only [PyData.shown]
      exact this
    · show ((PyData.int i).shown).cps.toList ≠ []
      simp only [PyData.shown]
      rw [signs_ofString]
      intro h
      have h := List.map_eq_nil_iff.mp h
      have h2 : (toString i).toList ≠ [] := by
        cases i with
        | ofNat n =>
          show (Nat.repr n).toList ≠ []
          rw [Nat.toList_repr]
          exact Nat.toDigits_ne_nil
        | negSucc n =>
          show ("-" ++ Nat.repr (n + 1) : String).toList ≠ []
          rw [String.toList_append]
          intro z
          have := (List.append_eq_nil_iff.mp z).1
          exact absurd this (by decide)
      exact h2 h
  | str z =>
    refine .inr (.inr (.inr (.inl ⟨⟨z, rfl⟩, reprQuote z, z.cps.toList.flatMap (reprChar (reprQuote z)) ++ [reprQuote z], ?_, ?_⟩)))
    · show ((PyData.str z).shown).cps.toList = _
      simp only [PyData.shown]
      exact repr_list z
    · unfold reprQuote
      split
      · exact .inr rfl
      · exact .inl rfl
  | list ds =>
    obtain ⟨r, hr⟩ := from_pre (PyData.shownAll ds) 0 "["
    refine .inr (.inr (.inr (.inr (.inl ⟨⟨ds, rfl⟩, r ++ [93], ?_⟩))))
    show ((PyData.list ds).shown).cps.toList = _
    simp only [PyData.shown]
    unfold listText
    rw [cat_list, hr]
    rfl
  | tuple ds =>
    refine .inr (.inr (.inr (.inr (.inr (.inl ⟨⟨ds, rfl⟩, ?_⟩)))))
    show ∃ t, ((PyData.tuple ds).shown).cps.toList = 40 :: t
    simp only [PyData.shown]
    unfold tupleText
    rw [cat_list, cat_list]
    exact ⟨_, rfl⟩
  | dict kvs =>
    refine .inr (.inr (.inr (.inr (.inr (.inr ⟨⟨kvs, rfl⟩, ?_⟩)))))
    show ∃ t, ((PyData.dict kvs).shown).cps.toList = 123 :: t
    simp only [PyData.shown]
    unfold dictText
    rw [cat_list, cat_list]
    exact ⟨_, rfl⟩
/-- what shows as a plain text first is that text -/
theorem text_first {d : PyData} {a : Str} {r r' : List Nat} (h92 : 92 ∉ a.cps.toList) (h39 : 39 ∉ a.cps.toList) (h : sl d ++ r = 39 :: (a.cps.toList ++ 39 :: r')) : d = .str a ∧ r = r' := by
  have fst : ∀ {c : Nat} {t : List Nat}, sl d = c :: t → c = 39 := fun {c t} e => by
    rw [e] at h
    exact (List.cons.inj h).1
  rcases first_sign d with ⟨_, t, e⟩ | ⟨_, c, t, e, hc⟩ | ⟨_, n39, _, ne⟩ | ⟨⟨z, rfl⟩, _⟩ | ⟨_, t, e⟩ | ⟨_, t, e⟩ | ⟨_, t, e⟩
  · exact absurd (fst e) (by decide)
  · have := fst e
    omega
  · cases hs : sl d with
    | nil => exact absurd hs ne
    | cons c t =>
      have := fst hs
      rw [hs, this] at n39
      exact absurd List.mem_cons_self n39
  · have e : sl (.str z) = reprQuote z :: (z.cps.toList.flatMap (reprChar (reprQuote z)) ++ [reprQuote z]) := by
      show ((PyData.str z).shown).cps.toList = _
      simp only [PyData.shown]
      exact repr_list z
    have hq := fst e
    rw [e, hq] at h
    have h : (z.cps.toList.flatMap (reprChar 39) ++ [39]) ++ r = a.cps.toList ++ 39 :: r' := (List.cons.inj h).2
    rw [List.append_assoc] at h
    obtain ⟨h1, h2⟩ := quote_end h92 h39 (show _ ++ 39 :: r = _ from h)
    exact ⟨congrArg PyData.str (ext_toList h1), h2⟩
  · exact absurd (fst e) (by decide)
  · exact absurd (fst e) (by decide)
  · exact absurd (fst e) (by decide)
def tlS (ds : List PyData) : List Nat := ds.flatMap fun d => 44 :: 32 :: sl d
theorem join_tl : ∀ (d : PyData) (ds : List PyData), (Str.join ", " (PyData.shownAll (d :: ds))).cps.toList = sl d ++ tlS ds
  | d, [] => by
    show (PyData.shown d).cps.toList = _
    unfold tlS
    rw [List.flatMap_nil, List.append_nil]
  | d, e :: ds => by
    have ih := join_tl e ds
    show (PyData.shown d ++ ", " ++ Str.join ", " (PyData.shownAll (e :: ds))).cps.toList = _
    rw [cat_list, cat_list, ih, List.append_assoc]
    unfold tlS
    rw [List.flatMap_cons]
    rfl
theorem tup_nil : sl (.tuple []) = [40, 41] := by
  show ((PyData.tuple []).shown).cps.toList = _
  simp only [PyData.shown, PyData.shownAll]
  decide +kernel
theorem tup_one (d : PyData) : sl (.tuple [d]) = 40 :: (sl d ++ [44, 41]) := by
  show ((PyData.tuple [d]).shown).cps.toList = _
  simp only [PyData.shown]
  unfold tupleText
  rw [cat_list, cat_list, join_tl]
  unfold tlS
  rw [List.flatMap_nil, List.append_nil]
  rfl
theorem all_len : ∀ ds : List PyData, (PyData.shownAll ds).length = ds.length
  | [] => rfl
  | d :: ds => by
    have := all_len ds
    show (PyData.shown d :: PyData.shownAll ds).length = _
    rw [List.length_cons, List.length_cons, this]
theorem tup_more (d e : PyData) (ds : List PyData) : sl (.tuple (d :: e :: ds)) = 40 :: (sl d ++ (tlS (e :: ds) ++ [41])) := by
  show ((PyData.tuple (d :: e :: ds)).shown).cps.toList = _
  simp only [PyData.shown]
  unfold tupleText
  rw [cat_list, cat_list, join_tl]
  have hl : ((PyData.shownAll (d :: e :: ds)).length == 1) = false := by
    rw [all_len]
    simp
  rw [hl, if_neg Bool.false_ne_true]
  show 40 :: ((sl d ++ tlS (e :: ds)) ++ [41]) = _
  rw [List.append_assoc]
/-- a text of letters and figures -/
def Plain (a : Str) : Prop := ∀ c ∈ a.cps.toList, isSign true c = true
theorem Plain.no92 {a : Str} (h : Plain a) : 92 ∉ a.cps.toList := fun z => absurd (h _ z) (by decide)
theorem Plain.no39 {a : Str} (h : Plain a) : 39 ∉ a.cps.toList := fun z => absurd (h _ z) (by decide)
theorem sign_own8 : ∀ c : Nat, c < 128 → isSign true c = true → reprChar 39 c = [c] := by decide +kernel
theorem sign_small8 {c : Nat} (h : isSign true c = true) : c < 128 := by
  unfold isSign at h
  simp at h
  omega
theorem flat_same : ∀ {l : List Nat}, (∀ c ∈ l, reprChar 39 c = [c]) → l.flatMap (reprChar 39) = l
  | [], _ => rfl
  | c :: l, h => by
    rw [List.flatMap_cons, h c List.mem_cons_self, flat_same fun x hx => h x (List.mem_cons_of_mem _ hx)]
    rfl
theorem Plain.sl {a : Str} (h : Plain a) : sl (.str a) = 39 :: (a.cps.toList ++ [39]) := by
  have hq : reprQuote a = 39 := by
    unfold reprQuote
    rw [if_neg]
    intro z
    rw [Bool.and_eq_true] at z
    exact h.no39 (by simpa using z.1)
  show ((PyData.str a).shown).cps.toList = _
  simp only [PyData.shown]
  rw [repr_list, hq, flat_same fun c hc => sign_own8 c (sign_small8 (h c hc)) (h c hc)]
theorem plain_word {n : Nat} {b : Bool} {z : Str} (h : wordB n b z = true) : Plain z := by
  unfold wordB at h
  rw [Bool.and_eq_true, List.all_eq_true] at h
  intro c hc
  have := h.2 c hc
  unfold isSign at this ⊢
  cases b
  · simp at this ⊢
    omega
  · exact this
theorem plain_nil : Plain ("" : Str) := fun c hc => by
  have : ("" : Str).cps.toList = [] := by decide +kernel
  rw [this] at hc
  cases hc
/-- what shows as a step first is that step -/
theorem step_first {d : PyData} {s : Str × Str} {r r' : List Nat} (h1 : Plain s.1) (h2 : Plain s.2) (h : sl d ++ r = sl (stepD s) ++ r') : d = stepD s ∧ r = r' := by
  have es : sl (stepD s) ++ r' = 40 :: 39 :: (s.1.cps.toList ++ 39 :: 44 :: 32 :: 39 :: (s.2.cps.toList ++ 39 :: 41 :: r')) := by
    unfold stepD
    rw [tup_more]
    unfold tlS
    rw [List.flatMap_cons, List.flatMap_nil, h1.sl, h2.sl]
    simp
  rw [es] at h
  have fst : ∀ {c : Nat} {t : List Nat}, sl d = c :: t → c = 40 := fun {c t} e => by
    rw [e] at h
    exact (List.cons.inj h).1
  rcases first_sign d with ⟨_, t, e⟩ | ⟨_, c, t, e, hc⟩ | ⟨_, _, n40, ne⟩ | ⟨_, c, t, e, hc⟩ | ⟨_, t, e⟩ | ⟨⟨ds, rfl⟩, _⟩ | ⟨_, t, e⟩
  · exact absurd (fst e) (by decide)
  · have := fst e
    omega
  · cases hs : sl d with
    | nil => exact absurd hs ne
    | cons c t =>
      have := fst hs
      rw [hs, this] at n40
      exact absurd List.mem_cons_self n40
  · have := fst e
    omega
  · exact absurd (fst e) (by decide)
  · match ds, h with
    | [], h =>
      rw [tup_nil] at h
      have h := (List.cons.inj h).2
      exact absurd (List.cons.inj h).1 (by decide)
    | [y], h =>
      rw [tup_one] at h
      have h : (sl y ++ [44, 41]) ++ r = 39 :: (s.1.cps.toList ++ 39 :: 44 :: 32 :: 39 :: (s.2.cps.toList ++ 39 :: 41 :: r')) := (List.cons.inj h).2
      rw [List.append_assoc] at h
      obtain ⟨_, h4⟩ := text_first h1.no92 h1.no39 h
      have h4 : 44 :: 41 :: r = 44 :: 32 :: _ := h4
      exact absurd (List.cons.inj (List.cons.inj h4).2).1 (by decide)
    | y :: z :: ds, h =>
      rw [tup_more] at h
      have h : (sl y ++ (tlS (z :: ds) ++ [41])) ++ r = 39 :: (s.1.cps.toList ++ 39 :: 44 :: 32 :: 39 :: (s.2.cps.toList ++ 39 :: 41 :: r')) := (List.cons.inj h).2
      rw [List.append_assoc] at h
      obtain ⟨rfl, h4⟩ := text_first h1.no92 h1.no39 h
      unfold tlS at h4
      rw [List.flatMap_cons] at h4
      have h4 : 44 :: 32 :: (((sl z ++ ds.flatMap fun d => 44 :: 32 :: sl d) ++ [41]) ++ r) = 44 :: 32 :: _ := h4
      have h4 := (List.cons.inj (List.cons.inj h4).2).2
      rw [List.append_assoc, List.append_assoc] at h4
      obtain ⟨rfl, h5⟩ := text_first h2.no92 h2.no39 h4
      cases ds with
      | nil =>
        have h5 : 41 :: r = 41 :: r' := h5
        exact ⟨rfl, (List.cons.inj h5).2⟩
      | cons w ds =>
        rw [List.flatMap_cons] at h5
        have h5 : 44 :: _ = 41 :: r' := h5
        exact absurd (List.cons.inj h5).1 (by decide)
  · exact absurd (fst e) (by decide)
theorem tl_steps : ∀ {ds : List PyData} {p : Path}, (∀ s ∈ p, Plain s.1 ∧ Plain s.2) → tlS ds ++ [41] = tlS (p.map stepD) ++ [41] → ds = p.map stepD
  | [], [], _, _ => rfl
  | [], s :: p, _, h => by
    have h : [41] = 44 :: _ := h
    exact absurd (List.cons.inj h).1 (by decide)
  | d :: ds, [], _, h => by
    have h : 44 :: _ = [41] := h
    exact absurd (List.cons.inj h).1 (by decide)
  | d :: ds, s :: p, hp, h => by
    have e1 : tlS (d :: ds) ++ [41] = 44 :: 32 :: (sl d ++ (tlS ds ++ [41])) := by
      unfold tlS
      rw [List.flatMap_cons]
      simp
    have e2 : tlS ((s :: p).map stepD) ++ [41] = 44 :: 32 :: (sl (stepD s) ++ (tlS (p.map stepD) ++ [41])) := by
      unfold tlS
      rw [List.map_cons, List.flatMap_cons]
      simp
    rw [e1, e2] at h
    have h := (List.cons.inj (List.cons.inj h).2).2
    obtain ⟨rfl, h2⟩ := step_first (hp s List.mem_cons_self).1 (hp s List.mem_cons_self).2 h
    rw [tl_steps (fun x hx => hp x (List.mem_cons_of_mem _ hx)) h2]
    rfl
theorem no_short {l m : List Nat} {c : Nat} (h : l ++ m = [c]) (hm : 2 ≤ m.length) : False := by
  have := congrArg List.length h
  rw [List.length_append] at this
  simp only [List.length_cons, List.length_nil] at this
  omega
theorem tl_long (d : PyData) (ds : List PyData) : 2 ≤ (tlS (d :: ds) ++ [41]).length := by
  unfold tlS
  rw [List.flatMap_cons, List.length_append]
  simp only [List.length_cons, List.length_append, List.length_nil]
  omega
theorem tl_head (d : PyData) (ds : List PyData) : ∃ t, tlS (d :: ds) ++ [41] = 44 :: 32 :: t := by
  unfold tlS
  rw [List.flatMap_cons]
  exact ⟨_, rfl⟩
theorem tup_path : ∀ (p : Path) (ds : List PyData), (∀ s ∈ p, Plain s.1 ∧ Plain s.2) → sl (.tuple ds) = sl (.tuple (p.map stepD)) → ds = p.map stepD
  | [], [], _, _ => rfl
  | [], [y], _, h => by
    rw [List.map_nil, tup_nil, tup_one] at h
    exact (no_short (List.cons.inj h).2 (by decide)).elim
  | [], y :: z :: ds, _, h => by
    rw [List.map_nil, tup_nil, tup_more] at h
    exact (no_short (List.cons.inj h).2 (tl_long _ _)).elim
  | [s], [], _, h => by
    rw [List.map_cons, List.map_nil, tup_nil, tup_one] at h
    exact (no_short (List.cons.inj h).2.symm (by decide)).elim
  | [s], [y], hp, h => by
    rw [List.map_cons, List.map_nil, tup_one, tup_one] at h
    have e := (step_first (hp s List.mem_cons_self).1 (hp s List.mem_cons_self).2 (List.cons.inj h).2).1
    rw [e]
    rfl
  | [s], y :: z :: ds, hp, h => by
    rw [List.map_cons, List.map_nil, tup_one, tup_more] at h
    have e := (step_first (hp s List.mem_cons_self).1 (hp s List.mem_cons_self).2 (List.cons.inj h).2).2
    obtain ⟨t, ht⟩ := tl_head z ds
    rw [ht] at e
    exact absurd (List.cons.inj (List.cons.inj e).2).1 (by decide)
  | s :: s2 :: p, [], _, h => by
    rw [List.map_cons, List.map_cons, tup_nil, tup_more] at h
    exact (no_short (List.cons.inj h).2.symm (tl_long _ _)).elim
  | s :: s2 :: p, [y], hp, h => by
    rw [List.map_cons, List.map_cons, tup_one, tup_more] at h
    have e := (step_first (hp s List.mem_cons_self).1 (hp s List.mem_cons_self).2 (List.cons.inj h).2).2
    obtain ⟨t, ht⟩ := tl_head (stepD s2) (p.map stepD)
    rw [ht] at e
    exact absurd (List.cons.inj (List.cons.inj e).2).1 (by decide)
  | s :: s2 :: p, y :: z :: ds, hp, h => by
    rw [List.map_cons, List.map_cons, tup_more, tup_more] at h
    obtain ⟨e1, e2⟩ := step_first (hp s List.mem_cons_self).1 (hp s List.mem_cons_self).2 (List.cons.inj h).2
    have e3 := tl_steps (ds := z :: ds) (p := s2 :: p) (fun x hx => hp x (List.mem_cons_of_mem _ hx)) e2
    rw [e1, e3]
    rfl
/-- what shows as a path is that path -/
theorem shown_path {d : PyData} {p : Path} (hp : ∀ s ∈ p, Plain s.1 ∧ Plain s.2) (h : d.shown = (pathD p).shown) : d = pathD p := by
  have h : sl d = sl (.tuple (p.map stepD)) := congrArg (fun z : Str => z.cps.toList) h
  obtain ⟨tt, ht⟩ : ∃ tt, sl (.tuple (p.map stepD)) = 40 :: tt := by
    rcases first_sign (.tuple (p.map stepD)) with ⟨z, _⟩ | ⟨⟨_, z⟩, _⟩ | ⟨⟨_, z⟩, _⟩ | ⟨⟨_, z⟩, _⟩ | ⟨⟨_, z⟩, _⟩ | ⟨_, h⟩ | ⟨⟨_, z⟩, _⟩
    · cases z
    · cases z
    · cases z
    · cases z
    · cases z
    · exact h
    · cases z
  have fst : ∀ {c : Nat} {t : List Nat}, sl d = c :: t → c = 40 := fun {c t} e => by
    rw [e, ht] at h
    exact (List.cons.inj h).1
  rcases first_sign d with ⟨_, t, e⟩ | ⟨_, c, t, e, hc⟩ | ⟨_, _, n40, ne⟩ | ⟨_, c, t, e, hc⟩ | ⟨_, t, e⟩ | ⟨⟨ds, rfl⟩, _⟩ | ⟨_, t, e⟩
  · exact absurd (fst e) (by decide)
  · have := fst e
    omega
  · cases hs : sl d with
    | nil => exact absurd hs ne
    | cons c t =>
      have := fst hs
      rw [hs, this] at n40
      exact absurd List.mem_cons_self n40
  · have := fst e
    omega
  · exact absurd (fst e) (by decide)
  · have fin := tup_path p ds hp h
    rw [fin]
    rfl
  · exact absurd (fst e) (by decide)
end NV
/-! K7b -/
set_option Elab.async false
set_option linter.all false
set_option maxRecDepth 100000
set_option maxHeartbeats 1000000
/-! what the laws of paths need: bounds of paths; parts of a list; what is no write -/
namespace NV
open PySem PySem.Spec PyProof.Rows L2
open C8 (pss_cut pe_gc)
theorem DrAt.off {D : Dr} {n : Nat} {T : List Addr} {H H' : Hp} (h : DrAt D n H) (k : Kp T H H') (o : ∀ b ∈ T, b ∉ D.all) : DrAt D n H' := by
  obtain ⟨h0, large, items, left, turn, h1, h2, h3, h4⟩ := h
  exact ⟨h0, large, items, left, turn, k _ _ (fun z => o _ z List.mem_cons_self) h1, k _ _ (fun z => o _ z (List.mem_cons_of_mem _ List.mem_cons_self)) h2, k _ _ (fun z => o _ z (List.mem_cons_of_mem _ (List.mem_cons_of_mem _ List.mem_cons_self))) h3, h4⟩
/-- every way's data is within bounds -/
theorem step_ok {s : Str × Str} (h1 : TxtOk s.1) (h2 : TxtOk s.2) : DOk 1 (stepD s) := DOk.tup fun d hd => by
  rcases List.mem_cons.mp hd with rfl | hd
  · exact DOk.str h1
  · rw [List.mem_singleton.mp hd]
    exact DOk.str h2
theorem Ent.Ok.wsC {e : Ent} (h : e.Ok) : ∀ c ∈ e.ws, cellB c = true := by
  cases e with
  | wr id rs ws pr => exact h.2.2.1.ok
  | qu id cs => exact fun c hc => by cases hc
theorem nice_cost {k : Int} (h0 : 0 ≤ k) (h1 : k ≤ 100000) : niceD (.int k) = true := by
  simp only [niceD, decide_eq_true_eq]
  have h : k.natAbs ≤ 100000 := by omega
  rcases Nat.eq_zero_or_pos k.natAbs with z | z
  · rw [z]; decide
  · have : k.natAbs.log2 < 17 := (Nat.log2_lt (by omega)).mpr (by omega)
    omega
theorem sumP_b : ∀ {bs : List Ent}, (∀ e ∈ bs, e.Ok) → 0 ≤ sumP bs ∧ sumP bs ≤ 99 * (bs.length : Nat)
  | [], _ => ⟨Int.le_refl _, Int.le_refl _⟩
  | e :: bs, h => by
    obtain ⟨h1, h2⟩ := sumP_b (bs := bs) fun u hu => h u (List.mem_cons_of_mem _ hu)
    have he : 0 ≤ e.pr.getD 0 ∧ e.pr.getD 0 ≤ 99 := by
      have := h e List.mem_cons_self
      cases e with
      | wr id rs ws pr =>
        obtain ⟨_, _, _, hp⟩ := this
        cases pr with
        | none => exact ⟨Int.le_refl 0, (by decide : (0 : Int) ≤ 99)⟩
        | some i =>
          have := hp i rfl
          exact ⟨by show 0 ≤ i; omega, by show i ≤ 99; omega⟩
      | qu id cs => exact ⟨Int.le_refl 0, (by decide : (0 : Int) ≤ 99)⟩
    unfold sumP
    rw [List.length_cons]
    omega
theorem path_b {es : List Ent} {i : Nat} {c : Str} {k : Int} {p : Path} {bs : List Ent} (ok : ∀ e ∈ es, e.Ok) (h60 : es.length ≤ 60) (h : PathOk es i c k p bs) : 0 ≤ k ∧ k ≤ 100000 := by
  obtain ⟨h1, _, h3, _⟩ := h.sum
  have hs : ∀ e ∈ bs, e.Ok := fun e he => ok e (List.mem_of_mem_drop (h3.subset he))
  obtain ⟨a, b⟩ := sumP_b hs
  have := h3.length_le
  rw [List.length_drop] at this
  omega
theorem path_txt {es : List Ent} {i : Nat} {c : Str} {k : Int} {p : Path} {bs : List Ent} (ok : ∀ e ∈ es, e.Ok) (h : PathOk es i c k p bs) : TxtOk c → ∀ s ∈ p, TxtOk s.1 ∧ TxtOk s.2 := by
  induction h with
  | fin hi h =>
    intro hc s hs
    rw [List.mem_singleton.mp hs]
    exact ⟨nil_txt, hc⟩
  | query hij he hw hcr h =>
    intro hc s hs
    rw [List.mem_singleton.mp hs]
    exact ⟨idB_txt (ok _ (List.mem_of_getElem? he)).idb, hc⟩
  | read hij he hw hcr h hc' r ih =>
    intro hc s hs
    rcases List.mem_cons.mp hs with rfl | hs
    · exact ⟨idB_txt (ok _ (List.mem_of_getElem? he)).idb, hc⟩
    · exact ih (cellB_txt ((ok _ (List.mem_of_getElem? he)).wsC _ hc')) s hs
theorem write_at {es : List Ent} {i : Nat} {e : Ent} (ok : LogOk es) (he : es[i]? = some e) (hw : e.isW = true) : writeD es (.str e.id) = some i := by
  unfold writeD
  rw [show posD es (.str e.id) = some i from posS_of ok.nd he (id_ne (ok.ok _ (List.mem_of_getElem? he)))]
  dsimp only
  rw [if_pos (by unfold writeAt; rw [he]; exact hw)]
theorem ix_l {K : PySem.W.Frag} {H : Hp} {p : Addr} {xs : List V} {x : V} {j : Nat} {i : Int} {Q : VK} (hp : H p = some (.lst xs)) (hx : xs[j]? = some x) (ei : i = (j : Int)) (q : Q x H) : rIxL K (.ref p) (.int i) H Q := by
  rw [ei]
  exact ⟨p, xs, j, x, rfl, rfl, .inl (.inl hp), atI_nat hx, q⟩
theorem cut_mid (xs : List V) {a b : Nat} (hb : b ≤ xs.length) (ha : a ≤ b) : cutV xs (some (a : Int)) (some (b : Int)) = (xs.drop a).take (b - a) := by
  unfold cutV
  rw [HT.sIx_nat, HT.sIx_nat, Nat.min_eq_left hb, Nat.min_eq_left (show a ≤ xs.length by omega)]
theorem RpAll.rest {ex : List Addr} {H : Hp} : ∀ {ds : List PyData} {xs : List V}, RpAll ex H ds xs → ∀ a, RpAll ex H (ds.drop a) (xs.drop a)
  | ds, xs, h, 0 => h
  | [], xs, h, a + 1 => by
    obtain rfl : xs = [] := h
    exact rfl
  | d :: ds, xs, h, a + 1 => by
    obtain ⟨x, ys, rfl, _, hy⟩ := h
    exact RpAll.rest hy a
theorem RpAll.first {ex : List Addr} {H : Hp} : ∀ {ds : List PyData} {xs : List V}, RpAll ex H ds xs → ∀ a, RpAll ex H (ds.take a) (xs.take a)
  | ds, xs, h, 0 => by rw [List.take_zero, List.take_zero]; exact rfl
  | [], xs, h, a + 1 => by
    obtain rfl : xs = [] := h
    exact rfl
  | d :: ds, xs, h, a + 1 => by
    obtain ⟨x, ys, rfl, hx, hy⟩ := h
    exact ⟨x, ys.take a, rfl, hx, RpAll.first hy a⟩
theorem RpAll.cut {ex : List Addr} {H : Hp} {ds : List PyData} {xs : List V} (h : RpAll ex H ds xs) (a b : Nat) : RpAll ex H ((ds.drop a).take b) ((xs.drop a).take b) := RpAll.first (RpAll.rest h a) b
theorem writeD_at {es : List Ent} {d : PyData} {i : Nat} (h : writeD es d = some i) : ∃ e, es[i]? = some e ∧ e.isW = true ∧ d = .str e.id := by
  unfold writeD at h
  cases hp : posD es d with
  | none => rw [hp] at h; cases h
  | some k =>
    rw [hp] at h
    dsimp only at h
    cases hw : writeAt es k with
    | false => rw [hw] at h; cases h
    | true =>
      rw [hw] at h
      obtain rfl : k = i := Option.some.inj h
      cases he : es[k]? with
      | none => unfold writeAt at hw; rw [he] at hw; cases hw
      | some e =>
        have hw2 : e.isW = true := by unfold writeAt at hw; rw [he] at hw; exact hw
        refine ⟨e, rfl, hw2, ?_⟩
        cases d with
        | str z =>
          have hp : posS es z = some k := hp
          unfold posS at hp
          by_cases hz : z = ""
          · rw [if_pos hz] at hp
            have := Option.some.inj hp
            rw [← this, List.getElem?_eq_none (Nat.le_refl _)] at he
            cases he
          · rw [if_neg hz] at hp
            obtain ⟨m, u, h1, h2, h3⟩ := posG_is hp
            obtain rfl : k = m := by omega
            rw [he] at h2
            obtain rfl := Option.some.inj h2
            rw [h3]
        | _ => cases hp
theorem told_ne {K : PySem.W.Frag} {H : Hp} {p T : Addr} {z : Str} {Q : VK} (hz : TxtOk z) (hp : H p = some (.tup [V.str z, V.bl true])) (hT : H T = some (.tup [V.str z, V.bl true])) (q : Q (.bl false) H) : rNeD K (.ref p) (.ref T) H Q := by
  have dk : DOk 1 (.tuple [.str z, .bool true]) := DOk.tup fun d hd => by
    rcases List.mem_cons.mp hd with e | e
    · rw [e]; exact DOk.str hz
    · rw [List.mem_singleton.mp e]; exact ⟨rfl, rfl, by simp only [PyData.depth]; exact Nat.zero_le _⟩
  have rp : ∀ {b : Addr}, H b = some (.tup [V.str z, V.bl true]) → Rp [] H (.tuple [.str z, .bool true]) (.ref b) := fun {b} e => ⟨b, _, rfl, by simp, e, .str z, [.bl true], rfl, rfl, .bl true, [], rfl, rfl, rfl⟩
  exact ne_ok dk (rp hp) (rp hT) q
theorem not_write {es : List Ent} {i : Nat} {e : Ent} (ok : LogOk es) (he : es[i]? = some e) (hw : e.isW = false) : writeD es (.str e.id) = none := by
  unfold writeD
  rw [show posD es (.str e.id) = some i from posS_of ok.nd he (id_ne (ok.ok _ (List.mem_of_getElem? he)))]
  dsimp only
  rw [if_neg]
  intro h
  unfold writeAt at h
  rw [he] at h
  dsimp only at h
  rw [hw] at h
  cases h
theorem no_name {es : List Ent} {d : PyData} (far : ∀ e ∈ es, e.id ∈ idAll) (h : ∀ z, d = .str z → z ∉ idAll) : writeD es d = none := by
  cases hw : writeD es d with
  | none => rfl
  | some i =>
    obtain ⟨e, he, _, rfl⟩ := writeD_at hw
    exact absurd (far e (List.mem_of_getElem? he)) (h _ rfl)
theorem TyX_tup {K : PySem.W.Frag} {ex : List Addr} {H : Hp} {ds : List PyData} {v : V} (r : Rp ex H (.tuple ds) v) : TyX K H v (.type "tuple") := rp_ty r
theorem kx {Ha Hb : Hp} (k : Kp [] Ha Hb) : LamX.ExtN Ha Hb := LamX.ExtN.of fun b o z => k b o (by simp) z
end NV
/-! K8 -/
set_option Elab.async false
set_option linter.all false
set_option maxRecDepth 100000
set_option maxHeartbeats 1000000
/-! what the law of retractions along paths needs: paths' words; the table of what paths show; a test that is a choice -/
namespace NV
open PySem PySem.Spec PyProof.Rows L2
open C8 (pss_cut pe_gc)
def tIfT (tA ta tb : TT) : TT := fun σ H Q => tA σ H fun c H1 => if c = true then ta σ H1 Q else tb σ H1 Q
theorem pt_ifExp {X : Cx} {c a b : Expr} {pos : Pos} {tA ta tb : TT} (hc : PT X c tA) (ha : PT X a ta) (hb : PT X b tb) : PT X (.IfExp c a b pos) (tIfT tA ta tb) := by
  refine ⟨fun pins s σ H Q I h => ?_⟩
  refine isTrue_IfExp (thn (hc.run pins s σ H _ I h) fun d s1 ⟨H1, I1, q1⟩ => ?_)
  cases d with
  | true => exact ha.run pins s1 σ H1 Q I1 q1
  | false => exact hb.run pins s1 σ H1 Q I1 q1
/-- the words along a path -/
theorem path_words {es : List Ent} {i : Nat} {c : Str} {k : Int} {p : Path} {bs : List Ent} (ok : ∀ e ∈ es, e.Ok) (h : PathOk es i c k p bs) : cellB c = true → ∀ s ∈ p, (s.1 = "" ∨ idB s.1 = true) ∧ cellB s.2 = true := by
  induction h with
  | fin hi h =>
    intro hc s hs
    rw [List.mem_singleton.mp hs]
    exact ⟨.inl rfl, hc⟩
  | query hij he hw hcr h =>
    intro hc s hs
    rw [List.mem_singleton.mp hs]
    exact ⟨.inr (ok _ (List.mem_of_getElem? he)).idb, hc⟩
  | read hij he hw hcr h hc' r ih =>
    intro hc s hs
    rcases List.mem_cons.mp hs with rfl | hs
    · exact ⟨.inr (ok _ (List.mem_of_getElem? he)).idb, hc⟩
    · exact ih ((ok _ (List.mem_of_getElem? he)).wsC _ hc') s hs
theorem words_wd {s : Str × Str} (h : (s.1 = "" ∨ idB s.1 = true) ∧ cellB s.2 = true) : Wd s.1 ∧ Wd s.2 := by
  refine ⟨?_, ?_⟩
  · rcases h.1 with e | e
    · rw [e]; exact ⟨by decide, by decide +kernel⟩
    · have := word_len e
      exact ⟨by omega, this.2⟩
  · have := word_len h.2
    exact ⟨by omega, this.2⟩
theorem words_plain {s : Str × Str} (h : (s.1 = "" ∨ idB s.1 = true) ∧ cellB s.2 = true) : Plain s.1 ∧ Plain s.2 := by
  refine ⟨?_, plain_word h.2⟩
  rcases h.1 with e | e
  · rw [e]; exact plain_nil
  · exact plain_word e
theorem AnyB.good {d : PyData} (h : AnyB d) : Good d := ⟨h.nice, by have := h.deep; omega, by have := h.small; omega⟩
theorem path_any {p : Path} (hp : ∀ s ∈ p, Wd s.1 ∧ Wd s.2) (l : p.length ≤ 9) : AnyB (pathD p) := items_tup (ds := p.map stepD) (fun d hd => by
  obtain ⟨s, hs, rfl⟩ := List.mem_map.mp hd
  exact step_it (hp s hs).1 (hp s hs).2) (by rw [List.length_map]; exact l)
theorem good_id {d : PyData} (h : AnyB d) : Good (.tuple [.str "id", d]) := by
  obtain ⟨a1, a2, a3⟩ := h
  refine ⟨?_, ?_, ?_⟩
  · have b1 : niceD (.str "id") = true := by decide +kernel
    simp only [niceD, niceAll, Bool.and_eq_true] at b1 ⊢
    exact ⟨b1, a1, trivial⟩
  · simp only [PyData.depth, PyData.depthAll]
    omega
  · have b1 : vol (.str "id") ≤ 100 := by decide +kernel
    simp only [vol, volAll] at b1 ⊢
    omega
theorem vol_two (d : PyData) : 2 ≤ vol d := by
  cases d <;> simp only [vol] <;> omega
theorem vol_len : ∀ ds : List PyData, 4 * ds.length ≤ volAll ds
  | [] => Nat.zero_le _
  | d :: ds => by
    have := vol_len ds
    have := vol_two d
    simp only [volAll, List.length_cons]
    omega
theorem any_len {d : PyData} (h : AnyB d) : ∀ ds, d = .tuple ds → ds.length ≤ 1000 := fun ds e => by
  have h1 := h.small
  rw [e] at h1
  simp only [vol] at h1
  have := vol_len ds
  omega
/-! ### the table -/
def tabKV (ps : List AP) : List (L2.Key × V) := ps.map fun x => (Sum.inr (pathD x.2.1).shown, V.bl true)
theorem tab_get (ps : List AP) (z : Str) : (valV (mergeK [] (tabKV ps)) (Sum.inr z : L2.Key)).isSome = true ↔ ∃ x ∈ ps, (pathD x.2.1).shown = z := by
  rw [valV_merge (.bl true) _ _ _ fun p hp => by
    obtain ⟨x, _, rfl⟩ := List.mem_map.mp hp
    rfl]
  by_cases h : ((tabKV ps).any fun p => decide (p.1 = (Sum.inr z : L2.Key))) = true
  · rw [if_pos h]
    refine ⟨fun _ => ?_, fun _ => rfl⟩
    obtain ⟨y, hy, hd⟩ := List.any_eq_true.mp h
    obtain ⟨x, hx, rfl⟩ := List.mem_map.mp hy
    exact ⟨x, hx, Sum.inr.inj (of_decide_eq_true hd)⟩
  · rw [if_neg h]
    constructor
    · intro hz
      cases hz
    · rintro ⟨x, hx, e⟩
      refine absurd (List.any_eq_true.mpr ⟨((Sum.inr (pathD x.2.1).shown : L2.Key), V.bl true), List.mem_map.mpr ⟨x, hx, rfl⟩, ?_⟩) h
      exact decide_eq_true (congrArg Sum.inr e)
/-- what the table says of a value is whether it is a path -/
theorem is_path {es : List Ent} {j n : Nat} {e : Ent} {d : PyData} (ok : LogOk es) (he : es[j]? = some e) (hw : e.isW = true) (hn : es.length - j ≤ n) :
    (valV (mergeK [] (tabKV (pathsF es n j))) (Sum.inr d.shown : L2.Key)).isSome = (blkrsP es j d).isSome := by
  have key : (valV (mergeK [] (tabKV (pathsF es n j))) (Sum.inr d.shown : L2.Key)).isSome = true ↔ (blkrsP es j d).isSome = true := by
    rw [tab_get]
    constructor
    · rintro ⟨x, hx, hs⟩
      obtain ⟨c, hc, hp⟩ := (paths_iff n j e he hn x).mp hx
      have po := hp.ents.1
      have hcB := (ok.ok _ (List.mem_of_getElem? he)).wsC _ hc
      have hd : d = pathD x.2.1 := shown_path (fun s hs => words_plain (path_words ok.ok po hcB s hs)) hs.symm
      rw [hd, path_blkrs ok he hc po]
      rfl
    · intro h
      obtain ⟨l, hl⟩ := Option.isSome_iff_exists.mp h
      obtain ⟨p, c, k, rfl, hc, hp⟩ := blkrs_path he hw hl
      obtain ⟨bs, hb⟩ := hp.ps
      exact ⟨(k, p, bs), (paths_iff n j e he hn _).mpr ⟨c, hc, hb⟩, rfl⟩
  cases h1 : (valV (mergeK [] (tabKV (pathsF es n j))) (Sum.inr d.shown : L2.Key)).isSome with
  | true => exact (key.mp h1).symm
  | false =>
    cases h2 : (blkrsP es j d).isSome with
    | false => rfl
    | true => rw [key.mpr h2] at h1; cases h1
theorem cutV_mem {xs : List V} {lo hi : Option Int} {x : V} (h : x ∈ cutV xs lo hi) : x ∈ xs := by
  unfold cutV at h
  exact List.mem_of_mem_drop (List.mem_of_mem_take h)
theorem cutV_len (xs : List V) (lo hi : Option Int) : (cutV xs lo hi).length ≤ xs.length := by
  unfold cutV
  rw [List.length_take, List.length_drop]
  omega
theorem PathPs.one {es : List Ent} {i : Nat} {c : Str} {k : Int} {p : Path} {ps : List Nat} (h : PathPs es i c k p ps) : 1 ≤ p.length := by
  cases h with
  | fin => exact Nat.le_refl _
  | query => exact Nat.le_refl _
  | read => rw [List.length_cons]; omega
/-- where a turn stands -/
structure Tu8 (PL : Addr) (D : Dr) (n : Nat) (es : List Ent) (p : Addr) (xs : List V) (c : Addr) (ys : List Str) (H : Hp) : Prop where
  hp : H p = some (.tup xs)
  np : p ∉ D.ex
  hx : RpAll D.ex H (es.map Ent.data) xs
  hc : H c = some (.lst (ys.map V.str))
  dr : DrAt D n H
  tab : TabL PL "law" H
section
variable {PL : Addr} {D : Dr} {n : Nat} {es : List Ent} {p c : Addr} {xs : List V} {ys : List Str} {H H' : Hp}
theorem Tu8.ext (h : Tu8 PL D n es p xs c ys H) (k : LamX.ExtN H H') (t : TabL PL "law" H') : Tu8 PL D n es p xs c ys H' := ⟨k _ _ h.hp (fun _ z => by cases z), h.np, RpAll.extN k _ _ h.hx, k _ _ h.hc (fun _ z => by cases z), h.dr.extN k, t⟩
theorem Tu8.keep (h : Tu8 PL D n es p xs c ys H) (k : Kp [] H H') : Tu8 PL D n es p xs c ys H' := h.ext (kx k) (h.tab.keep k)
theorem Tu8.kept (h : Tu8 PL D n es p xs c ys H) (hcD : c ∉ D.ex) (k : Kp D.ex H H') {m : Nat} (d : DrAt D m H') : Tu8 PL D m es p xs c ys H' := ⟨k _ _ h.np h.hp, h.np, RpAll.keep k _ _ h.hx, k _ _ hcD h.hc, d, h.tab.dr h.dr k⟩
theorem Tu8.rb (h : Tu8 PL D n es p xs c ys H) : Rp D.ex H (logD es) (.ref p) := ⟨p, xs, rfl, h.np, h.hp, h.hx⟩
theorem Tu8.lv (h : Tu8 PL D n es p xs c ys H) : Live D.ex H := h.dr.live
theorem Tu8.less (h : Tu8 PL D n es p xs c ys H) {m : Nat} (hm : m ≤ n) : Tu8 PL D m es p xs c ys H := ⟨h.hp, h.np, h.hx, h.hc, h.dr.less hm, h.tab⟩
end
end NV
/-! C08 -/
set_option Elab.async false
set_option linter.all false
set_option maxRecDepth 100000
set_option maxHeartbeats 1000000
/-! the law: retractions along paths -/
namespace NV
open PySem PySem.Spec PyProof.Rows L2
open C8 (pss_cut pe_gc)
abbrev sLaw : Stmt := topS 60
theorem scLaw : FnScope ["script", "draw", "turn", "spots", "book", "odd", "at", "entry", "some", "table", "price", "road", "between", "other", "is_path", "found"] ["script"] (defScope sLaw) := ⟨rfl, rfl, rfl, by decide +kernel, rfl, by decide +kernel, by decide +kernel⟩
def spLaw (K : PySem.W.Frag) (PL : Addr) : Sp := fun vs H Q _ => ∃ (a : Addr) (ns : List Int), vs = [.ref a] ∧ SqL K H a (ns.map V.int) ∧ ns.length ≤ 63 ∧ TabL PL "law" H ∧ ∀ H', Q (.bl true) H'
section
variable {P : Program} {w : World} {K : PySem.W.Frag} {mg : Str → Option Value} {base : Heap}
theorem ok_retrBad (DRetractionsFor : Fn K mg "retractions_for" sRetractionsFor ["log", "entry_id", "path"]) (DCheckLog : Fn K mg "check_log" sCheckLog ["log"]) {CL : Addr} (XCheckLog : FnOk P w K mg base (L2.CX P w) 7 DCheckLog.f DCheckLog.fd ["log"] (spMay logD' CL)) :
    FnOk P w K mg base (L2.CX P w) 8 DRetractionsFor.f DRetractionsFor.fd ["log", "entry_id", "path"] (spRetrBad CL) := by
  refine DRetractionsFor.F.okX scRetractionsFor (fun vs H Q E h => ?_) (fun cdv A outer s H vs Q E hr h => ?_)
  · obtain ⟨v, u1, u2, d, ex, rfl, _⟩ := h
    rfl
  obtain ⟨v, u1, u2, d, ex, rfl, rv, nd, bad, e⟩ := h
  refine ⟨_, pss_cons (ps_expr (pe_fx DCheckLog XCheckLog hr (takes_of rfl rfl rfl rfl) (pa_cons (pv 0) pa_nil))) (pss_dead _), ?_⟩
  exact ⟨_, rfl, v, d, ex, rfl, rv, nd, (fun h => by rw [bad] at h; cases h), fun _ H' k => e H' k⟩
theorem ok_law {cL PL : Addr} {Ae : ErrAt} {gR : List Value → List Value → List Value} (DLaw : Fn K mg "law" sLaw ["script"]) (CLaw : CodeOf K "law" sLaw DLaw.f DLaw.fd cL) (DLawBegin : Fn K mg "_law_begin" sLawBegin ["script"]) (DLawTake : Fn K mg "_law_take" sLawTake ["draw", "size"]) (DLawPick : Fn K mg "_law_pick" sLawPick ["draw", "some"]) (DLawCells : Fn K mg "_law_cells" sLawCells ["draw", "many"]) (DLawLog : Fn K mg "_law_log" sLawLog ["draw", "many", "cells"])
    (DLawAllPaths : Fn K mg "_law_all_paths" sLawAllPaths ["entries", "one"]) (DLawPathRight : Fn K mg "_law_path_right" sLawPathRight ["book", "at", "price", "road", "between"]) (DLawChanged : Fn K mg "_law_changed" sLawChanged ["draw", "book", "spots", "road"]) (DLawResult : Fn K mg "_law_result" sLawResult ["work"]) (DRetractionsFor : Fn K mg "retractions_for" sRetractionsFor ["log", "entry_id", "path"])
    (BRetractionsFor0 : KBn K DRetractionsFor.fd ["log", "entry_id", "path"] 0 ["path", "log", "entry_id"] gR (fun _ zs => [zs.getD 1 .non, zs.getD 2 .non, zs.getD 0 .non]))
    (b_len : mg "len" = none) (b_range : mg "range" = none) (b_min : mg "min" = none) (b_isinstance : mg "isinstance" = none) (b_repr : mg "repr" = none) (b_list : mg "list" = none) (b_tuple : mg "tuple" = none) (b_enumerate : mg "enumerate" = none) (b_dict : mg "dict" = none) (b_ValueError : mg "ValueError" = none)
    (Te : ErrTop mg Ae) (f0 : ErrFld K Ae 0 "entry_id") (f1 : ErrFld K Ae 1 "cell") (f2 : ErrFld K Ae 2 "entry_id") (f3 : ErrFld K Ae 3 "entry_id") (cl0 : ErrCls K Ae 0) (cl4 : ErrCls K Ae 4) (TB : LamX.TabB base mg cL PL)
    (GLawBegin : FnOk P w K mg base CX0 1 DLawBegin.f DLawBegin.fd ["script"] (spBegin K)) (GLawTake : FnOk P w K mg base CX0 2 DLawTake.f DLawTake.fd ["draw", "size"] spTake) (GLawPick : FnOk P w K mg base CX0 3 DLawPick.f DLawPick.fd ["draw", "some"] (spPick K)) (GLawCells : FnOk P w K mg base CX0 3 DLawCells.f DLawCells.fd ["draw", "many"] spCells)
    (GLawLog : FnOk P w K mg base CX0 5 DLawLog.f DLawLog.fd ["draw", "many", "cells"] (spLogF K)) (GLawAllPaths : FnOk P w K mg base CX0 7 DLawAllPaths.f DLawAllPaths.fd ["entries", "one"] (spPathsF 6)) (GLawPathRight : FnOk P w K mg base CX0 9 DLawPathRight.f DLawPathRight.fd ["book", "at", "price", "road", "between"] spPathR) (GLawChanged : FnOk P w K mg base CX0 4 DLawChanged.f DLawChanged.fd ["draw", "book", "spots", "road"] spChg)
    (XRetractionsFor : FnOk P w K mg base (L2.CX P w) 8 DRetractionsFor.f DRetractionsFor.fd ["log", "entry_id", "path"] (fun vs H Q E => spRetrF Ae.id vs H Q E ∨ spRetrBad Ae.log vs H Q E)) :
    FnOkG P w K mg base CX0 15 DLaw.f DLaw.fd ["script"] (spLaw K PL) := by
  refine okGC CLaw scLaw (fun vs H Q E h => ?_) (fun A outer s H vs Q E hg hr h => ?_)
  · obtain ⟨a, ns, rfl, _⟩ := h
    rfl
  obtain ⟨a, ns, rfl, hS, h63, hT, q⟩ := h
  have hu := hu_of hr
  have hu64 : (A.deeper (envOfC "law" (defScope sLaw) s.heap.objs.size DLaw.f (.ref cL))).units + 64 < cLine := by have := hr.un; omega
  have hu80 : (A.deeper (envOfC "law" (defScope sLaw) s.heap.objs.size DLaw.f (.ref cL))).units + 80 < cLine := by have := hr.un; omega
  let FRetractionsFor : FnF K mg "retractions_for" sRetractionsFor := ⟨DRetractionsFor.f, DRetractionsFor.fd, DRetractionsFor.F, DRetractionsFor.m⟩
  refine ⟨_, pss_cons (ps_set (i := 1) scLaw.nd rfl (.inl rfl) (pe_fn DLawBegin GLawBegin hr (pa_cons (pv 0) pa_nil)))
      (pss_cons (ps_for PassesOwn.never rfl (pi_range1 rfl b_range (pa_cons (pe_op op_add pe_int (pe_callB (call_min2 rfl) (by rfl) b_min (by decide +kernel) (pa_cons (pe_callB (lenVE K) (by rfl) b_len (by decide +kernel) (pa_cons (pv 0) pa_nil)) (pa_cons pe_int pa_nil)))) pa_nil)) (pg_name (i := 2) scLaw.nd rfl (.inl rfl))
      (pss_cons (ps_set (i := 3) scLaw.nd rfl (.inl rfl) (pe_fn DLawCells GLawCells hr (pa_cons (pv 1) (pa_cons (pe_op op_add pe_int (pe_fn DLawTake GLawTake hr (pa_cons (pv 1) (pa_cons pe_int pa_nil)))) pa_nil))))
      (pss_cons (ps_set (i := 4) scLaw.nd rfl (.inr rfl) (pe_fn DLawLog GLawLog hr (pa_cons (pv 1) (pa_cons (pe_op op_add pe_int (pe_fn DLawTake GLawTake hr (pa_cons (pv 1) (pa_cons pe_int pa_nil)))) (pa_cons (pv 3) pa_nil)))))
      (pss_cons (ps_for PassesOwn.never rfl (pi_enumT K (by rfl) b_enumerate (pa_cons (pv 4) pa_nil)) (pg_tupE K (by rfl) (pgs_cons (pg_name (i := 6) scLaw.nd rfl (.inl rfl)) (pgs_cons (pg_name (i := 7) scLaw.nd rfl (.inr rfl)) pgs_nil)))
      (pss_cons (ps_set (i := 8) scLaw.nd rfl (.inl rfl) (pe_ifExp (pt_cmpR op_eq (pe_ix (ixtE K) (pv 7) pe_int (fun _ _ => rfl)) pe_str (nomark _)) (pe_fn DLawAllPaths GLawAllPaths hr (pa_cons (pv 4) (pa_cons (pv 6) pa_nil))) (pe_lst pa_nil)))
      (pss_cons (ps_set (i := 9) scLaw.nd rfl (.inl rfl) (pe_callTy (call_dictP (by rfl)) (by rfl) b_dict (by decide +kernel) (pa_cons (pe_lc (own := [("price", 10), ("road", 11), ("between", 12)]) (g := gTup K 3 (gCons (gName 10) (gCons (gName 11) (gCons (gName 12) gNil)))) (tt := tYes) (by rfl) scLaw.nd (piListE K (pv 8)) (blkOk_by (N := ["script", "draw", "turn", "spots", "book", "odd", "at", "entry", "some", "table", "price", "road", "between", "other", "is_path", "found"]) (sc := defScope sLaw) (by decide +kernel)) (fun _ _ _ _ _ => (pg_tupE K (by rfl) (pgs_cons (pg_name (i := 10) scLaw.nd rfl (.inl rfl)) (pgs_cons (pg_name (i := 11) scLaw.nd rfl (.inl rfl)) (pgs_cons (pg_name (i := 12) scLaw.nd rfl (.inl rfl)) pgs_nil))))) (fun _ _ _ _ _ => pts_nil) (fun _ _ _ _ _ => (pe_tup (pa_cons (pe_callB (cr_repr hg hu80) (by rfl) b_repr (by decide +kernel) (pa_cons (pv 11) pa_nil)) (pa_cons pe_bl pa_nil))))) pa_nil)))
      (pss_cons (ps_for PassesOwn.never rfl (piListE K (pe_op op_cat (pe_slice (sllE K) (pv 8) po_none (po_some pe_int)) (pe_slice (sllE K) (pv 8) (po_some (pe_un un_neg pe_int)) po_none))) (pg_tupE K (by rfl) (pgs_cons (pg_name (i := 10) scLaw.nd rfl (.inl rfl)) (pgs_cons (pg_name (i := 11) scLaw.nd rfl (.inl rfl)) (pgs_cons (pg_name (i := 12) scLaw.nd rfl (.inl rfl)) pgs_nil))))
      (pss_cons (ps_if (pt_not (pt_val (pe_fn DLawPathRight GLawPathRight hr (pa_cons (pv 4) (pa_cons (pv 6) (pa_cons (pv 10) (pa_cons (pv 11) (pa_cons (pv 12) pa_nil))))))))
      (pss_one (ps_ret pe_bl))
      pss_nil)
      (pss_cons (ps_set (i := 13) scLaw.nd rfl (.inr rfl) (pe_fn DLawChanged GLawChanged hr (pa_cons (pv 1) (pa_cons (pv 4) (pa_cons (pv 3) (pa_cons (pv 11) pa_nil))))))
      (pss_cons (ps_set (i := 14) scLaw.nd rfl (.inl rfl) (pe_cmp (pc_din hu (pe_callB (cr_repr hg hu80) (by rfl) b_repr (by decide +kernel) (pa_cons (pv 13) pa_nil)) (pv 9))))
      (pss_cons (ps_set (i := 15) scLaw.nd rfl (.inl rfl) (pe_lamres (A := Ae) (nm := "law") (c := cL) (P := PL) DLawResult Te b_isinstance b_ValueError f0 f1 f2 f3 TB hr (fun A9 o9 s9 H9 E9 f9 c9 hr9 => (pe_q0x FRetractionsFor BRetractionsFor0 XRetractionsFor hr9 (takes_of rfl rfl rfl rfl) (pk_cons (pv 13) (pk_cons (pv 4) (pk_cons (pe_ix (ixtE K) (pv 7) pe_int (fun _ _ => rfl)) pk_nil)))))))
      (pss_one (ps_if (pt_ifExp (pt_val (pv 14)) (pt_cmpR (neDE K hr.units) (pe_ix (ixtE K) (pv 15) pe_int (fun _ _ => rfl)) pe_str (nomark _)) (pt_cmpR op_ne (pe_callB (cr_repr hg hu80) (by rfl) b_repr (by decide +kernel) (pa_cons (pv 15) pa_nil)) (pe_callB (cr_repr hg hu80) (by rfl) b_repr (by decide +kernel) (pa_cons (pe_tup (pa_cons pe_str (pa_cons (pv 13) pa_nil))) pa_nil)) (nomark _)))
      (pss_one (ps_ret pe_bl))
      pss_nil)))))))
      (pss_one (ps_if (PW.pt (pw_and (pt_cmpR op_eq (pe_ix (ixtE K) (pv 7) pe_int (fun _ _ => rfl)) pe_str (nomark _)) (pw_and1 (pt_cmpR (neDE K hr.units) (pe_lamres (A := Ae) (nm := "law") (c := cL) (P := PL) DLawResult Te b_isinstance b_ValueError f0 f1 f2 f3 TB hr (fun A9 o9 s9 H9 E9 f9 c9 hr9 => (pe_fx DRetractionsFor XRetractionsFor hr9 (takes_of rfl rfl rfl rfl) (pa_cons (pv 4) (pa_cons (pe_ix (ixtE K) (pv 7) pe_int (fun _ _ => rfl)) (pa_cons (pe_tup pa_nil) pa_nil)))))) (pe_tup (pa_cons pe_str (pa_cons (pe_ix (ixtE K) (pv 7) pe_int (fun _ _ => rfl)) pa_nil))) (nomark _)))))
      (pss_one (ps_ret pe_bl))
      pss_nil))))))
      (pss_cons (ps_if (pt_cmpR (neDE K hr.units) (pe_lamres (A := Ae) (nm := "law") (c := cL) (P := PL) DLawResult Te b_isinstance b_ValueError f0 f1 f2 f3 TB hr (fun A9 o9 s9 H9 E9 f9 c9 hr9 => (pe_fx DRetractionsFor XRetractionsFor hr9 (takes_of rfl rfl rfl rfl) (pa_cons (pe_callTy (listE K) (by rfl) b_list (by decide +kernel) (pa_cons (pv 4) pa_nil)) (pa_cons pe_non (pa_cons pe_non pa_nil)))))) (pe_tup (pa_cons pe_str (pa_cons pe_bl pa_nil))) (nomark _))
      (pss_one (ps_ret pe_bl))
      pss_nil)
      (pss_cons (ps_set (i := 5) scLaw.nd rfl (.inr rfl) (pe_fn DLawPick GLawPick hr (pa_cons (pv 1) (pa_cons (pe_lst (pa_cons pe_str (pa_cons pe_str (pa_cons pe_non (pa_cons pe_int (pa_cons (pe_lst (pa_cons pe_str pa_nil)) (pa_cons pe_dnewK (pa_cons pe_str pa_nil)))))))) pa_nil))))
      (pss_one (ps_if (pt_cmpR op_ne (pe_callB (cr_repr hg hu80) (by rfl) b_repr (by decide +kernel) (pa_cons (pe_lamres (A := Ae) (nm := "law") (c := cL) (P := PL) DLawResult Te b_isinstance b_ValueError f0 f1 f2 f3 TB hr (fun A9 o9 s9 H9 E9 f9 c9 hr9 => (pe_fx DRetractionsFor XRetractionsFor hr9 (takes_of rfl rfl rfl rfl) (pa_cons (pv 4) (pa_cons (pv 5) (pa_cons (pe_tup (pa_cons (pe_tup (pa_cons pe_str (pa_cons pe_str pa_nil))) pa_nil)) pa_nil)))))) pa_nil)) (pe_callB (cr_repr hg hu80) (by rfl) b_repr (by decide +kernel) (pa_cons (pe_tup (pa_cons pe_str (pa_cons (pv 5) pa_nil))) pa_nil)) (nomark _))
      (pss_one (ps_ret pe_bl))
      pss_nil))))))))
      (pss_one (ps_ret pe_bl))), ?_⟩
  refine ⟨_, rfl, a, ns, rfl, hS, h63, fun D H0 k0 nd nl nit dr => ?_⟩
  have hT0 : TabL PL "law" H0 := hT.keep k0
  refine ⟨_, rfl, .ref a, ns.length, rfl, .inl ⟨_, Kp.seqL k0 (by simp) hS, by rw [List.length_map]⟩, (ns.length : Int), 6, rfl, 2, _, rfl, rfl, _, rfl, by split <;> omega, by split <;> omega, ?_⟩
  have turns : ((2 : Int) + (if (6 : Int) < (ns.length : Int) then 6 else (ns.length : Int))).toNat ≤ 8 := by split <;> omega
  generalize ((2 : Int) + (if (6 : Int) < (ns.length : Int) then 6 else (ns.length : Int))).toNat = tn at turns ⊢
  have line : (100000 : Nat) < sizeLine := by decide
  refine for_range (fun i σ H' => ∃ v2 v3 v4 v5 v6 v7 v8 v9 v10 v11 v12 v13 v14 v15 : Option V, σ = [some (.ref a), some (.ref D.d), v2, v3, v4, v5, v6, v7, v8, v9, v10, v11, v12, v13, v14, v15] ∧ DrAt D (900000000 - i * 10000000) H' ∧ TabL PL "law" H') ⟨none, none, none, none, none, none, none, none, none, none, none, none, none, none, rfl, dr.less (by omega), hT0⟩ ?_ ?_
  · rintro i σ H1 hi ⟨v2, v3, v4, v5, v6, v7, v8, v9, v10, v11, v12, v13, v14, v15, rfl, d1, t1⟩
    have hi10 : i < 8 := by omega
    have upk : ∀ {Ha Hb : Hp}, Kp [] Ha Hb → Kp D.ex Ha Hb := fun k => k.mono (by simp)
    refine ⟨_, rfl, _, rfl, D, 899999999 - i * 10000000, 3, rfl, by decide, by decide, d1.less (by omega), fun ci Hb c0 c1 kb db => ?_⟩
    obtain ⟨cn, rfl⟩ := Int.eq_ofNat_of_zero_le c0
    refine ⟨1, (cn : Int), rfl, rfl, D, 899999990 - i * 10000000, 1 + cn, by rw [Int.natCast_add]; rfl, by omega, db.less (by omega), fun ys c Hc hya hys hyl nc ec kc dc => ?_⟩
    refine ⟨_, rfl, _, rfl, D, 899999980 - i * 10000000, 6, rfl, by decide, by decide, dc.less (by omega), fun mi Hd m0 m1 kd dd => ?_⟩
    obtain ⟨mn, rfl⟩ := Int.eq_ofNat_of_zero_le m0
    have hcD : c ∉ D.all := db.fresh nc
    have hcE : c ∉ D.ex := Dr.sub hcD
    have hyw : ∀ z ∈ ys, Wd z := fun z hz => by
      have := word_len (cellPool_ok z (hys z hz))
      exact ⟨by omega, this.2⟩
    refine ⟨1, (mn : Int), rfl, rfl, _, rfl, D, 899999700 - i * 10000000, 1 + mn, c, ys, D.ex, (by rw [Int.natCast_add]; rfl), by omega, kd _ _ (Dr.sub hcD) ec, hcD, hya, fun z hz => cellPool_ok z (hys z hz), by omega, by omega, fun b hb => hb, dd.live, dd.less (by omega), fun es p He hok hfar hlen hrp ke de => ?_⟩
    have h6 : es.length ≤ 6 := by omega
    have h60 : es.length ≤ 60 := by omega
    have far : ∀ e ∈ es, e.id ∈ idAll := fun e he => (hfar e he).1
    have te : TabL PL "law" He := t1.dr d1 (((kb.trans kc).trans kd).trans ke)
    have hce : He c = some (.lst (ys.map V.str)) := ke _ _ hcE (kd _ _ hcE ec)
    obtain ⟨p', xs, e1, np0, hp0, hx0⟩ := id hrp
    cases e1
    have st0 : Tu8 PL D (899999700 - i * 10000000) es p xs c ys He := ⟨hp0, np0, hx0, hce, de, te⟩
    have hl : es.length = xs.length := len_data hx0
    refine ⟨_, rfl, p, xs, rfl, .inl (.inl st0.hp), for_enumT (K := K) (a := p) (xs := xs) (fun j σ H' => ∃ v5 v6 v7 v8 v9 v10 v11 v12 v13 v14 v15 : Option V, σ = [some (.ref a), some (.ref D.d), some (.int (0 + (i : Nat))), some (.ref c), some (.ref p), v5, v6, v7, v8, v9, v10, v11, v12, v13, v14, v15] ∧ Tu8 PL D (899999700 - i * 10000000 - j * 1000000) es p xs c ys H') ⟨_, _, _, _, _, _, _, _, _, _, _, rfl, st0.less (by omega)⟩ (fun i σ H' ⟨_, _, _, _, _, _, _, _, _, _, _, _, st⟩ => .inl (.inl st.hp)) ?_ ?_⟩
    · rintro j x T σ H1 hxj ⟨v5, v6, v7, v8, v9, v10, v11, v12, v13, v14, v15, rfl, st1⟩ nT
      have hj : j < es.length := by
        have := (List.getElem?_eq_some_iff.mp hxj).1
        omega
      have kT : Kp [] H1 (upd H1 T (.tup [.int (j : Nat), x])) := Kp.laid nT
      have hT : (upd H1 T (.tup [.int (j : Nat), x])) T = some (.tup [.int (j : Nat), x]) := upd_same
      obtain ⟨e, he⟩ : ∃ e, es[j]? = some e := ⟨_, List.getElem?_eq_getElem hj⟩
      have st2 := st1.keep kT
      obtain ⟨H2, e2⟩ : ∃ H2, upd H1 T (.tup [.int (j : Nat), x]) = H2 := ⟨_, rfl⟩
      rw [e2] at hT st2 ⊢
      obtain ⟨dk, edk, hdk⟩ := ent_kind e
      obtain ⟨ds, ed, hd1, _⟩ := ent_reads e
      have at_ : ∀ {m : Nat} {Hx : Hp}, Tu8 PL D m es p xs c ys Hx → Rp D.ex Hx e.data x := fun st => by
        obtain ⟨_, h1, h2⟩ := ent_at st.hx he
        rw [hxj] at h1
        obtain rfl := Option.some.inj h1
        exact h2
      refine ⟨T, _, rfl, .inl (.inl hT), rfl, _, _, rfl, _, _, rfl, rfl, ?_⟩
      refine ⟨_, rfl, c_of (ent_ix (at_ st2) edk hdk rfl fun vk rk => ?_)⟩
      obtain rfl : vk = .str (if e.isW then "write" else "query") := rk
      refine ⟨rfl, _, rfl, ?_⟩
      rw [kind_w]
      cases hw : e.isW with
      | true =>
        refine iteT ?_
        -- all paths
        refine ⟨_, rfl, _, rfl, .ref p, es, j, e, D.ex, rfl, st2.rb, he, hw, hok.ok, h6, by omega, st2.lv, fun fo fs H3 k3 nfo hfo hfr => ?_⟩
        have fl := hfr.length
        rw [List.length_map] at fl
        have st3 := st2.keep k3
        have foD := st2.dr.fresh nfo
        have pc := paths_count hok.ok 6 j hj
        have pc1 : 4 ^ (es.length - (j + 1)) ≤ 4 ^ 5 := pow4 (by omega)
        have pc2 : (4 : Nat) ^ 5 = 1024 := by decide
        have istab : ∀ {d : PyData}, (valV (mergeK [] (tabKV (pathsF es 6 j))) (Sum.inr d.shown : L2.Key)).isSome = (blkrsP es j d).isSome := is_path hok he hw (by omega)
        have inps : ∀ y ∈ pathsF es 6 j, ∃ c ∈ e.ws, PathPs es (j + 1) c y.1 y.2.1 y.2.2 := fun y hy => (paths_iff 6 j e he (by omega) y).mp hy
        obtain ⟨ps, eps⟩ : ∃ ps, ps = pathsF es 6 j := ⟨_, rfl⟩
        rw [← eps] at hfr fl pc istab inps
        have wds : ∀ y ∈ ps, (∀ s ∈ y.2.1, Wd s.1 ∧ Wd s.2) ∧ 1 ≤ y.2.1.length ∧ y.2.1.length ≤ 7 := fun y hy => by
          obtain ⟨c9, hc9, hpp⟩ := inps y hy
          have := hpp.len
          refine ⟨fun s hs => words_wd (path_words hok.ok hpp.ents.1 ((hok.ok _ (List.mem_of_getElem? he)).wsC _ hc9) s hs), hpp.one, by omega⟩
        have gds : ∀ y ∈ ps, Good (pathD y.2.1) := fun y hy => (path_any (wds y hy).1 (by have := (wds y hy).2.2; omega)).good
        refine ⟨_, rfl, fo, rfl, ⟨_, .inl (.inl hfo)⟩, fun C nC => ?_⟩
        have kC : Kp [] H3 (upd H3 C (.lst [])) := Kp.laid nC
        have nfC : fo ≠ C := fun z => by rw [z, nC] at hfo; cases hfo
        have CD := st3.dr.fresh nC
        have hfrC : RpAll (C :: D.ex) (upd H3 C (.lst [])) (ps.map apD) fs := RpAll.keep (kC.mono (by simp)) _ _ (RpAll.apart nC _ _ hfr)
        have hfoC := kC _ _ (by simp) hfo
        refine lc_inv ps.length (fun m H' => Kp [C] (upd H3 C (.lst [])) H' ∧ ∃ ts : List Addr, H' C = some (.lst (ts.map V.ref)) ∧ ts.length = m ∧ Paired (fun p (kv : L2.Key × V) => H' p = some (.tup [kV kv.1, kv.2])) ts (tabKV (ps.take m))) ⟨Kp.refl, [], upd_same, rfl, .nil⟩ ?_ (fun m H' hm ⟨k, _⟩ => ⟨fs, fs[m]'(by omega), .inl (.inl (k _ _ (by simpa using nfC) hfoC)), List.getElem?_eq_getElem (by omega)⟩) ?_
        · rintro H4 ⟨k4, ts, hC, tl, hts⟩
          rw [List.take_length] at hts
          refine ⟨⟨fs, .inl (.inl (k4 _ _ (by simpa using nfC) hfoC)), by omega⟩, ?_⟩
          have k34 : Kp [] H3 H4 := Kp.drop ((kC.mono (by simp)).trans k4) nC
          have st4 := st3.keep k34
          refine ⟨C, ts, tabKV ps, rfl, .inl (.inl hC), hts.mono fun p kv h => .inl (.inl h), fun TB8 nTB => ?_⟩
          have kTB : Kp [] H4 (upd H4 TB8 (.dK (mergeK [] (tabKV ps)))) := Kp.laid nTB
          have hTB : (upd H4 TB8 (.dK (mergeK [] (tabKV ps)))) TB8 = some (.dK (mergeK [] (tabKV ps))) := upd_same
          have TBD := st4.dr.fresh nTB
          have st5 := st4.keep kTB
          obtain ⟨H5, e5⟩ : ∃ H5, upd H4 TB8 (.dK (mergeK [] (tabKV ps))) = H5 := ⟨_, rfl⟩
          rw [e5] at kTB hTB st5 ⊢
          have k35 := k34.trans kTB
          have hfo5 := k35 _ _ (by simp) hfo
          have hfr5 : RpAll D.ex H5 (ps.map apD) fs := RpAll.keep (upk k35) _ _ hfr
          -- the first and the last
          refine ⟨_, rfl, _, rfl, fo, fs, rfl, SqL.of hfo5, fun P1 nP1 => ?_⟩
          have kP1 : Kp [] H5 (upd H5 P1 (.lst (cutV fs none (some 6)))) := Kp.laid nP1
          have hP1 : (upd H5 P1 (.lst (cutV fs none (some 6)))) P1 = some (.lst (cutV fs none (some 6))) := upd_same
          refine ⟨_, rfl, 6, rfl, _, rfl, fo, fs, rfl, SqL.of (kP1 _ _ (by simp) hfo5), fun P2 nP2 => ?_⟩
          have kP2 : Kp [] _ (upd (upd H5 P1 (.lst (cutV fs none (some 6)))) P2 (.lst (cutV fs (some (-6)) none))) := Kp.laid nP2
          have hP2 : (upd (upd H5 P1 (.lst (cutV fs none (some 6)))) P2 (.lst (cutV fs (some (-6)) none))) P2 = some (.lst (cutV fs (some (-6)) none)) := upd_same
          have l1 := cutV_len fs none (some 6)
          have l2 := cutV_len fs (some (-6)) none
          refine ⟨P1, P2, _, _, rfl, rfl, kP2 _ _ (by simp) hP1, hP2, by omega, fun P3 nP3 => ?_⟩
          have zmem : ∀ z ∈ cutV fs none (some 6) ++ cutV fs (some (-6)) none, z ∈ fs := fun z hz => (List.mem_append.mp hz).elim cutV_mem cutV_mem
          have zlen : (cutV fs none (some 6) ++ cutV fs (some (-6)) none).length ≤ 6200 := by rw [List.length_append]; omega
          obtain ⟨zs, ezs⟩ : ∃ zs, cutV fs none (some 6) ++ cutV fs (some (-6)) none = zs := ⟨_, rfl⟩
          have k5P : Kp [] H5 (upd (upd (upd H5 P1 (.lst (cutV fs none (some 6)))) P2 (.lst (cutV fs (some (-6)) none))) P3 (.lst zs)) := (kP1.trans kP2).trans (Kp.laid nP3)
          have hP3 : (upd (upd (upd H5 P1 (.lst (cutV fs none (some 6)))) P2 (.lst (cutV fs (some (-6)) none))) P3 (.lst zs)) P3 = some (.lst zs) := upd_same
          have P3D := (st5.dr.keep (kP1.trans kP2)).fresh nP3
          obtain ⟨HP, eHP⟩ : ∃ HP, upd (upd (upd H5 P1 (.lst (cutV fs none (some 6)))) P2 (.lst (cutV fs (some (-6)) none))) P3 (.lst zs) = HP := ⟨_, rfl⟩
          rw [ezs] at zmem zlen
          rw [eHP] at k5P hP3
          have eHP' : upd (upd (upd H5 P1 (.lst (cutV fs none (some 6)))) P2 (.lst (cutV fs (some (-6)) none))) P3 (.lst (cutV fs none (some 6) ++ cutV fs (some (-6)) none)) = HP := by rw [ezs]; exact eHP
          rw [eHP']
          have stP := st5.keep k5P
          refine ⟨P3, rfl, ⟨_, .inl (.inl hP3)⟩, for_list (K := K) (a := P3) (xs := zs) (fun m σ H' => ∃ v10 v11 v12 v13 v14 v15 : Option V, σ = [some (.ref a), some (.ref D.d), some (.int (0 + (i : Nat))), some (.ref c), some (.ref p), v5, some (.int (j : Nat)), some x, some (.ref fo), some (.ref TB8), v10, v11, v12, v13, v14, v15] ∧ Tu8 PL D (899999700 - i * 10000000 - j * 1000000 - m * 20) es p xs c ys H' ∧ H' TB8 = some (.dK (mergeK [] (tabKV ps))) ∧ H' P3 = some (.lst zs) ∧ RpAll D.ex H' (ps.map apD) fs)
            ⟨_, _, _, _, _, _, rfl, stP.less (by omega), k5P _ _ (by simp) hTB, hP3, RpAll.keep (upk k5P) _ _ hfr5⟩ (fun m σ H' _ ⟨_, _, _, _, _, _, _, _, _, h, _⟩ => SqL.of h) ?_ ?_⟩
          · rintro m z σ H6 hz ⟨v10, v11, v12, v13, v14, v15, rfl, st6, hTB6, hP6, hfr6⟩
            have hm : m < zs.length := (List.getElem?_eq_some_iff.mp hz).1
            obtain ⟨t, hzt⟩ := List.getElem?_of_mem (zmem z (List.mem_of_getElem? hz))
            obtain ⟨d, hd, rd⟩ := RpAll.back hfr6 hzt
            obtain ⟨y, hy', rfl⟩ : ∃ y, ps[t]? = some y ∧ apD y = d := by
              rw [List.getElem?_map] at hd
              cases h : ps[t]? with
              | none => rw [h] at hd; cases hd
              | some y => rw [h] at hd; exact ⟨y, rfl, Option.some.inj hd⟩
            have hyp : y ∈ ps := List.mem_of_getElem? hy'
            obtain ⟨T4, us4, rfl, nT4, hT4, hus4⟩ := rd
            obtain ⟨u0, t1', rfl, hu0, hus4⟩ := hus4
            obtain ⟨u1, t2', rfl, hu1, hus4⟩ := hus4
            obtain ⟨u2, t3', rfl, hu2, hus4⟩ := hus4
            obtain rfl : t3' = [] := hus4
            obtain rfl : u0 = .int y.1 := hu0
            obtain ⟨c9, hc9, hpp⟩ := inps y hyp
            refine ⟨T4, _, rfl, .inl (.inl hT4), rfl, _, _, rfl, _, _, rfl, _, _, rfl, rfl, ?_⟩
            refine ⟨_, rfl, _, rfl, _, rfl, _, rfl, _, rfl, .ref p, u1, u2, es, j, e, c9, y.1, y.2.1, y.2.2, D.ex, rfl, st6.rb, hok, h60, he, hw, hc9, hpp, hu1, hu2, st6.lv, fun H7 k7 => ⟨_, rfl, iteF ?_⟩⟩
            have st7 := st6.keep k7
            -- another path
            obtain ⟨w1, w2, w3⟩ := wds y hyp
            refine ⟨_, rfl, _, rfl, _, rfl, _, rfl, D, 899999700 - i * 10000000 - j * 1000000 - (m + 1) * 20, .ref p, u1, c, es, ys, y.2.1, rfl, st7.rb, hok, h6, st7.hc, hcD, hyw, by omega, Rp.keep (upk k7) _ _ hu1, w2, w3, w1, st7.dr.less (by omega), fun o H8 ho k8 d8 => ?_⟩
            obtain ⟨dO, ro, aO⟩ := ho
            have st8 := st7.kept hcE k8 d8
            have hTB8 := k8 _ _ (Dr.sub TBD) (k7 _ _ (by simp) hTB6)
            have hP8 := k8 _ _ (Dr.sub P3D) (k7 _ _ (by simp) hP6)
            have hfr8 := RpAll.keep k8 _ _ (RpAll.keep (upk k7) _ _ hfr6)
            -- is it a path
            refine ⟨_, rfl, nil_on (rp_good aO.good ro ?_)⟩
            refine ⟨_, rfl, TB8, _, rfl, DGet.k (k := Sum.inr dO.shown) hTB8, ?_⟩
            rw [istab]
            obtain ⟨ib, eib⟩ : ∃ ib, (blkrsP es j dO).isSome = ib := ⟨_, rfl⟩
            rw [eib]
            -- the package's answer
            refine ⟨st8.tab, fun Ha ea ta => ?_⟩
            have st9 := st8.ext ea ta
            have ro9 := Rp.extN ea _ _ ro
            have hTB9 := ea _ _ hTB8 (fun _ z => by cases z)
            have hP9 := ea _ _ hP8 (fun _ z => by cases z)
            have hfr9 := RpAll.extN ea _ _ hfr8
            refine ⟨_, rfl, _, rfl, _, rfl, c_of (ent_ix (at_ st9) ed hd1 rfl fun u ru => ?_)⟩
            obtain rfl : u = .str e.id := ru
            refine ⟨rfl, .inl ⟨.ref p, .str e.id, o, es, .str e.id, dO, D.ex, rfl, st9.rb, hok, h60, st9.lv, rfl, ro9, any_len aO, fun h => (by rw [write_at hok he hw] at h; cases h), ?_⟩⟩
            intro i9 h9
            rw [write_at hok he hw] at h9
            obtain rfl := Option.some.inj h9
            refine ⟨fun hn dd Hb kb hb => ?_, fun l hl' gp Hb kb ngp hgp => ?_⟩
            · obtain rfl : ib = false := by rw [← eib, hn]; rfl
              refine ⟨0, o, by decide, rfl, cl0, (fun b h => by cases h; exact ⟨_, hb⟩), fun _ => ⟨dd, _, rfl, hb, rfl⟩, (fun z => absurd z (by decide)), fun p3 Hc kc h3 => ?_⟩
              have kbc := kb.trans kc
              have st10 := st9.keep kbc
              have ro10 := Rp.keep (upk kbc) _ _ ro9
              refine ⟨_, rfl, _, rfl, iteF ?_⟩
              refine ⟨_, rfl, nil_on (rp_good (ex := D.ex) (good_id aO) ⟨p3, _, rfl, dr_tup st10.dr h3, h3, .str "id", [o], rfl, rfl, o, [], rfl, ro10, rfl⟩ ?_)⟩
              refine ⟨_, rfl, by show 2 ≤ sizeLine; omega, fun T1 nT1 => ?_⟩
              have k1 : Kp [] Hc (upd Hc T1 (.tup [V.str "id", o])) := Kp.laid nT1
              refine nil_on (rp_good (ex := D.ex) (good_id aO) ⟨T1, _, rfl, Dr.sub (st10.dr.fresh nT1), upd_same, .str "id", [o], rfl, rfl, o, [], rfl, Rp.keep (upk k1) _ _ ro10, rfl⟩ ?_)
              refine ⟨rfl, _, rfl, ?_⟩
              rw [decide_eq_true rfl]
              refine iteF ?_
              have kf := kbc.trans k1
              exact ⟨_, _, _, _, _, _, rfl, st9.keep kf, kf _ _ (by simp) hTB9, kf _ _ (by simp) hP9, RpAll.keep (upk kf) _ _ hfr9⟩
            · obtain rfl : ib = true := by rw [← eib, hl']; rfl
              refine fun p3 Hc kc h3 => ?_
              refine ⟨_, rfl, _, rfl, iteT ?_⟩
              refine ⟨_, rfl, p3, _, ((0 : Nat) : Int), .str "value", rfl, rfl, .inl (.inl h3), atI_nat rfl, ?_⟩
              refine c_of ?_
              refine ne_ok (ex := []) (ex' := []) (n := 1) (d := .str "value") (DOk.str ⟨by decide, by decide +kernel⟩) rfl rfl ⟨_, rfl, iteF ?_⟩
              have kf := kb.trans kc
              exact ⟨_, _, _, _, _, _, rfl, st9.keep kf, kf _ _ (by simp) hTB9, kf _ _ (by simp) hP9, RpAll.keep (upk kf) _ _ hfr9⟩
          · rintro σ H6 ⟨v10, v11, v12, v13, v14, v15, rfl, st6, _, _, _⟩
            have hdk' : dk[0]? = some (.str "write") := by rw [hdk, hw]; rfl
            refine ⟨_, rfl, c_of (ent_ix (at_ st6) edk hdk' rfl fun vk rk => ?_)⟩
            obtain rfl : vk = .str "write" := rk
            refine ⟨rfl, _, rfl, ?_⟩
            rw [show decide (V.str "write" = V.str "query") = false from decide_eq_false fun h => absurd (V.str.inj h) (by decide)]
            refine iteF (iteF ?_)
            exact ⟨_, _, _, _, _, _, _, _, _, _, _, rfl, st6.less (by omega)⟩
        · rintro m H' x' H'' hm ⟨k, ts, hC, tl, hts⟩ ⟨rfl, hat⟩
          have hxm := hat fs (.inl (.inl (k _ _ (by simpa using nfC) hfoC)))
          obtain ⟨d, hd, rd⟩ := RpAll.back (RpAll.keep (k.mono (ex' := C :: D.ex) (by simp)) _ _ hfrC) hxm
          obtain ⟨y, hy', rfl⟩ : ∃ y, ps[m]? = some y ∧ apD y = d := by
            rw [List.getElem?_map] at hd
            cases h : ps[m]? with
            | none => rw [h] at hd; cases hd
            | some y => rw [h] at hd; exact ⟨y, rfl, Option.some.inj hd⟩
          obtain ⟨T4, us4, rfl, nT4, hT4, hus4⟩ := rd
          obtain ⟨u0, t1', rfl, hu0, hus4⟩ := hus4
          obtain ⟨u1, t2', rfl, hu1, hus4⟩ := hus4
          obtain ⟨u2, t3', rfl, hu2, hus4⟩ := hus4
          obtain rfl : t3' = [] := hus4
          obtain rfl : u0 = .int y.1 := hu0
          refine ⟨T4, _, rfl, .inl (.inl hT4), rfl, _, _, rfl, _, _, rfl, _, _, rfl, rfl, rfl, yes_on ⟨_, rfl, nil_on (rp_good (gds y (List.mem_of_getElem? hy')) hu1 ⟨by show 2 ≤ sizeLine; omega, fun N nN => ?_⟩)⟩⟩
          have kN : Kp [] H'' (upd H'' N (.tup [.str (pathD y.2.1).shown, V.bl true])) := Kp.laid nN
          have hN : (upd H'' N (.tup [.str (pathD y.2.1).shown, V.bl true])) N = some (.tup [.str (pathD y.2.1).shown, V.bl true]) := upd_same
          have nNC : N ≠ C := fun z => by rw [z, hC] at nN; cases nN
          obtain ⟨H5, e5⟩ : ∃ H5, upd H'' N (.tup [.str (pathD y.2.1).shown, V.bl true]) = H5 := ⟨_, rfl⟩
          rw [e5] at kN hN ⊢
          have hC5 := kN _ _ (by simp) hC
          refine ⟨_, hC5, by rw [List.length_map]; omega, k.trans ((kN.mono (by simp)).trans (Kp.put (by simp))), ts ++ [N], by rw [upd_same, List.map_append]; rfl, by rw [List.length_append, tl]; rfl, ?_⟩
          have hcell : ∀ {p : Addr} {vs : List V}, H5 p = some (.tup vs) → (upd H5 C (.lst (ts.map V.ref ++ [.ref N]))) p = some (.tup vs) := fun {p vs} h => by
            have : p ≠ C := fun y => by rw [y, hC5] at h; cases h
            rw [upd_ne this]
            exact h
          have et : tabKV (ps.take (m + 1)) = tabKV (ps.take m) ++ [((Sum.inr (pathD y.2.1).shown : L2.Key), V.bl true)] := by
            unfold tabKV
            rw [List.take_add_one, hy', List.map_append]
            rfl
          rw [et]
          exact (hts.mono fun p kv h => hcell (kN _ _ (by simp) h)).snoc (hcell hN)
      | false =>
        refine iteF ?_
        refine ⟨by show 0 ≤ sizeLine; omega, fun fo nfo => ?_⟩
        have k3 : Kp [] H2 (upd H2 fo (.lst [])) := Kp.laid nfo
        have hfo : (upd H2 fo (.lst [])) fo = some (.lst []) := upd_same
        have st3 := st2.keep k3
        obtain ⟨H3, e3⟩ : ∃ H3, upd H2 fo (.lst []) = H3 := ⟨_, rfl⟩
        rw [e3] at k3 hfo st3 ⊢
        refine ⟨_, rfl, fo, rfl, ⟨_, .inl (.inl hfo)⟩, fun C nC => ?_⟩
        have kC : Kp [] H3 (upd H3 C (.lst [])) := Kp.laid nC
        refine lc_inv 0 (fun m H' => H' = upd H3 C (.lst [])) rfl ?_ (fun m H' hm _ => absurd hm (by omega)) (fun m H' x' H'' hm => absurd hm (by omega))
        rintro H4 rfl
        refine ⟨⟨[], .inl (.inl (kC _ _ (by simp) hfo)), Nat.le_refl _⟩, ?_⟩
        refine ⟨C, [], [], rfl, .inl (.inl upd_same), .nil, fun TB8 nTB => ?_⟩
        have kTB : Kp [] _ (upd (upd H3 C (.lst [])) TB8 (.dK (mergeK [] []))) := Kp.laid nTB
        have k35 := kC.trans kTB
        have st5 := st3.keep k35
        have hfo5 := k35 _ _ (by simp) hfo
        obtain ⟨H5, e5⟩ : ∃ H5, upd (upd H3 C (.lst [])) TB8 (.dK (mergeK [] [])) = H5 := ⟨_, rfl⟩
        rw [e5] at st5 hfo5 ⊢
        refine ⟨_, rfl, _, rfl, fo, [], rfl, SqL.of hfo5, fun P1 nP1 => ?_⟩
        have c1 : cutV ([] : List V) none (some 6) = [] := by unfold cutV; simp
        have c2 : cutV ([] : List V) (some (-6)) none = [] := by unfold cutV; simp
        rw [c1]
        have kP1 : Kp [] H5 (upd H5 P1 (.lst [])) := Kp.laid nP1
        have hP1 : (upd H5 P1 (.lst [])) P1 = some (.lst []) := upd_same
        refine ⟨_, rfl, 6, rfl, _, rfl, fo, [], rfl, SqL.of (kP1 _ _ (by simp) hfo5), fun P2 nP2 => ?_⟩
        have c2' : cutV ([] : List V) (some (-(6 : Int))) none = [] := c2
        rw [c2']
        have kP2 : Kp [] _ (upd (upd H5 P1 (.lst [])) P2 (.lst [])) := Kp.laid nP2
        refine ⟨P1, P2, [], [], rfl, rfl, kP2 _ _ (by simp) hP1, upd_same, by show 0 ≤ sizeLine; omega, fun P3 nP3 => ?_⟩
        have k5P : Kp [] H5 (upd (upd (upd H5 P1 (.lst [])) P2 (.lst [])) P3 (.lst [])) := (kP1.trans kP2).trans (Kp.laid nP3)
        have hP3 : (upd (upd (upd H5 P1 (.lst [])) P2 (.lst [])) P3 (.lst [])) P3 = some (.lst []) := upd_same
        have stP := st5.keep k5P
        refine ⟨P3, rfl, ⟨_, .inl (.inl hP3)⟩, for_list (K := K) (a := P3) (xs := []) (fun m σ H' => ∃ v10 v11 v12 v13 v14 v15 : Option V, σ = [some (.ref a), some (.ref D.d), some (.int (0 + (i : Nat))), some (.ref c), some (.ref p), v5, some (.int (j : Nat)), some x, some (.ref fo), some (.ref TB8), v10, v11, v12, v13, v14, v15] ∧ Tu8 PL D (899999700 - i * 10000000 - j * 1000000) es p xs c ys H' ∧ H' P3 = some (.lst []))
          ⟨_, _, _, _, _, _, rfl, stP, hP3⟩ (fun m σ H' _ ⟨_, _, _, _, _, _, _, _, h⟩ => SqL.of h) (fun m z σ H6 hz => by cases hz) ?_⟩
        rintro σ H6 ⟨v10, v11, v12, v13, v14, v15, rfl, st6, _⟩
        have hdk' : dk[0]? = some (.str "query") := by rw [hdk, hw]; rfl
        refine ⟨_, rfl, c_of (ent_ix (at_ st6) edk hdk' rfl fun vk rk => ?_)⟩
        obtain rfl : vk = .str "query" := rk
        refine ⟨rfl, _, rfl, ?_⟩
        rw [decide_eq_true rfl]
        refine iteT ?_
        refine ⟨st6.tab, fun Ha ea ta => ?_⟩
        have sta := st6.ext ea ta
        refine ⟨_, rfl, _, rfl, c_of (ent_ix (at_ sta) ed hd1 rfl fun u ru => ?_)⟩
        obtain rfl : u = .str e.id := ru
        refine ⟨by show 0 ≤ sizeLine; omega, fun E0 nE0 => ?_⟩
        have kE : Kp [] Ha (upd Ha E0 (.tup [])) := Kp.laid nE0
        have hE : (upd Ha E0 (.tup [])) E0 = some (.tup []) := upd_same
        have stE := sta.keep kE
        have E0D := sta.dr.fresh nE0
        obtain ⟨HE, eE⟩ : ∃ HE, upd Ha E0 (.tup []) = HE := ⟨_, rfl⟩
        rw [eE] at kE hE stE ⊢
        refine .inl ⟨.ref p, .str e.id, .ref E0, es, .str e.id, .tuple [], D.ex, rfl, stE.rb, hok, h60, stE.lv, rfl, ⟨E0, [], rfl, Dr.sub E0D, hE, rfl⟩, fun ds h => by cases h; exact Nat.zero_le _, fun hn dd Hb kb hb => ?_, fun i9 h9 => (by rw [not_write hok he hw] at h9; cases h9)⟩
        refine ⟨0, .str e.id, by decide, rfl, cl0, (fun b h => by cases h; exact ⟨_, hb⟩), fun _ => ⟨dd, _, rfl, hb, rfl⟩, (fun z => absurd z (by decide)), fun p3 Hc kc h3 => ?_⟩
        have stc := stE.keep (kb.trans kc)
        refine ⟨_, rfl, c_of (ent_ix (at_ stc) ed hd1 rfl fun u ru => ?_)⟩
        obtain rfl : u = .str e.id := ru
        refine ⟨by show 2 ≤ sizeLine; omega, fun T1 nT1 => ?_⟩
        have k1 : Kp [] Hc (upd Hc T1 (.tup [V.str "id", V.str e.id])) := Kp.laid nT1
        have dk : DOk 1 (.tuple [.str "id", .str e.id]) := DOk.tup fun d hd => by
          rcases List.mem_cons.mp hd with z | z
          · rw [z]; exact DOk.str ⟨by decide, by decide +kernel⟩
          · rw [List.mem_singleton.mp z]; exact DOk.str (idB_txt (hok.ok _ (List.mem_of_getElem? he)).idb)
        have rp : ∀ {b : Addr} {Hx : Hp}, Hx b = some (.tup [V.str "id", V.str e.id]) → Rp [] Hx (.tuple [.str "id", .str e.id]) (.ref b) := fun {b Hx} h => ⟨b, _, rfl, by simp, h, .str "id", [.str e.id], rfl, rfl, .str e.id, [], rfl, rfl, rfl⟩
        refine ne_ok dk (rp (k1 _ _ (by simp) h3)) (rp upd_same) ⟨_, rfl, iteF ?_⟩
        exact ⟨_, _, _, _, _, _, _, _, _, _, _, rfl, (stc.keep k1).less (by omega)⟩
    · rintro σ H1 ⟨v5, v6, v7, v8, v9, v10, v11, v12, v13, v14, v15, rfl, st1⟩
      rw [← hl] at st1
      -- a list is no log
      refine ⟨st1.tab, fun Ha ea ta => ?_⟩
      have sta := st1.ext ea ta
      refine ⟨_, rfl, p, xs, rfl, .inr (.inl (.inl sta.hp)), fun l5 nl5 => ?_⟩
      have q1 : Kp [] Ha (upd Ha l5 (.lst xs)) := Kp.laid nl5
      have f1 : (upd Ha l5 (.lst xs)) l5 = some (.lst xs) := upd_same
      have n5 := sta.dr.fresh nl5
      have stl := sta.keep q1
      obtain ⟨G1, g1⟩ : ∃ G1, upd Ha l5 (.lst xs) = G1 := ⟨_, rfl⟩
      rw [g1] at q1 f1 stl ⊢
      have nic := (log_nice hok.ok).1
      have nicA : niceAll (es.map Ent.data) = true := by simpa only [logD, niceD] using nic
      refine .inr ⟨.ref l5, .non, .non, .list (es.map Ent.data), D.ex, rfl, ⟨l5, xs, rfl, Dr.sub n5, f1, stl.hx⟩, by simpa only [niceD] using nicA, rfl, fun Hb1 kb1 => ?_⟩
      refine ⟨4, .bl true, by decide, rfl, cl4, (fun _ z => by cases z), (fun z => absurd z (by decide)), fun _ => rfl, fun p3 Hc1 kc1 h3 => ?_⟩
      refine ⟨by show 2 ≤ sizeLine; omega, fun T1 nT1 => ?_⟩
      have kd1 : Kp [] Hc1 (upd Hc1 T1 (.tup [V.str "log", V.bl true])) := Kp.laid nT1
      refine told_ne (z := "log") ⟨by decide, by decide +kernel⟩ (kd1 _ _ (by simp) h3) upd_same ⟨_, rfl, iteF ?_⟩
      have stN := stl.keep (kb1.trans (kc1.trans kd1))
      obtain ⟨HN, eN⟩ : ∃ HN, upd Hc1 T1 (.tup [V.str "log", V.bl true]) = HN := ⟨_, rfl⟩
      rw [eN] at stN ⊢
      have dN := stN.dr
      -- an odd value
      refine ⟨_, rfl, by show 1 ≤ sizeLine; omega, fun l1 nl1 => fun w1 nw1 => ⟨by show 7 ≤ sizeLine; omega, fun oA noA => ?_⟩⟩
      have p1 : Kp [] HN (upd HN l1 (.lst [V.str "a"])) := Kp.laid nl1
      have l1D := dN.fresh nl1
      have D1 := dN.keep p1
      have p3' : Kp [] (upd HN l1 (.lst [V.str "a"])) (upd (upd HN l1 (.lst [V.str "a"])) w1 (.dK [])) := Kp.laid nw1
      have w1D := D1.fresh nw1
      have D3 := D1.keep p3'
      have q1' := p3' _ _ (by simp) (upd_same (H := HN) (a := l1) (o := .lst [V.str "a"]))
      have q3 : (upd (upd HN l1 (.lst [V.str "a"])) w1 (.dK [])) w1 = some (.dK []) := upd_same
      have kP := p1.trans p3'
      obtain ⟨HP, eP⟩ : ∃ HP, upd (upd HN l1 (.lst [V.str "a"])) w1 (.dK []) = HP := ⟨_, rfl⟩
      rw [eP] at noA D3 q1' q3 kP ⊢
      have p4 : Kp [] HP (upd HP oA (.lst [V.str "no", V.str "", V.non, V.int 0, .ref l1, .ref w1, V.str "zzzzzzz"])) := Kp.laid noA
      have e4 : (upd HP oA (.lst [V.str "no", V.str "", V.non, V.int 0, .ref l1, .ref w1, V.str "zzzzzzz"])) oA = some (.lst [V.str "no", V.str "", V.non, V.int 0, .ref l1, .ref w1, V.str "zzzzzzz"]) := upd_same
      have oAD := D3.fresh noA
      have D4 := D3.keep p4
      obtain ⟨HO, eO⟩ : ∃ HO, upd HP oA (.lst [V.str "no", V.str "", V.non, V.int 0, .ref l1, .ref w1, V.str "zzzzzzz"]) = HO := ⟨_, rfl⟩
      rw [eO] at p4 e4 D4 ⊢
      refine ⟨D, 899999700 - i * 10000000 - 9000000, oA, _, rfl, SqL.of e4, by show 0 < 7; decide, by show 7 < 1073741824; decide, Dr.sub oAD, D4.less (by omega), fun m y Hn hm kn dn => ?_⟩
      have keN : Kp D.ex HN Hn := (upk (kP.trans p4)).trans kn
      have hy : ∃ d, Rp D.ex Hn d y ∧ VOk d ∧ ∀ z, d = .str z → z ∉ idAll := by
        have hm := List.mem_of_getElem? hm
        have g1 := kn _ _ (Dr.sub l1D) (p4 _ _ (by simp) q1')
        have g3 := kn _ _ (Dr.sub w1D) (p4 _ _ (by simp) q3)
        simp only [List.mem_cons, List.not_mem_nil, or_false] at hm
        rcases hm with z | z | z | z | z | z | z
        · rw [z]; exact ⟨.str "no", rfl, str_vok (by decide) (by decide +kernel), fun z h => by cases h; decide +kernel⟩
        · rw [z]; exact ⟨.str "", rfl, str_vok (by decide) (by decide +kernel), fun z h => by cases h; decide +kernel⟩
        · rw [z]; exact ⟨.none, rfl, ⟨rfl, by simp only [PyData.depth]; omega, by simp only [vol]; omega⟩, fun z h => by cases h⟩
        · rw [z]; exact ⟨.int 0, rfl, ⟨by decide +kernel, by simp only [PyData.depth]; omega, by decide +kernel⟩, fun z h => by cases h⟩
        · rw [z]; exact ⟨.list [.str "a"], ⟨l1, _, rfl, Dr.sub l1D, g1, .str "a", [], rfl, rfl, rfl⟩, ⟨by decide +kernel, by decide +kernel, by decide +kernel⟩, fun z h => by cases h⟩
        · rw [z]; exact ⟨.dict [], ⟨rfl, w1, rfl, Dr.sub w1D, g3⟩, ⟨by decide +kernel, by decide +kernel, by decide +kernel⟩, fun z h => by cases h⟩
        · rw [z]; exact ⟨.str "zzzzzzz", rfl, str_vok (by decide) (by decide +kernel), fun z h => by cases h; decide +kernel⟩
      obtain ⟨dO, ry, vO, oO⟩ := hy
      have stO := stN.kept hcE keN dn
      have noW := no_name (es := es) far oO
      refine ⟨stO.tab, fun Ha ea ta => ?_⟩
      have sta := stO.ext ea ta
      have rya := Rp.extN ea _ _ ry
      refine ⟨_, rfl, _, rfl, by show 2 ≤ sizeLine; omega, fun q1 nq1 => ?_⟩
      have kq1 : Kp [] Ha (upd Ha q1 (.tup [V.str "", V.str "a"])) := Kp.laid nq1
      have rq1 : Rp D.ex (upd Ha q1 (.tup [V.str "", V.str "a"])) (.tuple [.str "", .str "a"]) (.ref q1) := rp_new (Dr.sub (sta.dr.fresh nq1)) nq1 ⟨_, _, rfl, rfl, _, _, rfl, rfl, rfl⟩
      have stq1 := sta.keep kq1
      obtain ⟨Hq1, eq1⟩ : ∃ Hq1, upd Ha q1 (.tup [V.str "", V.str "a"]) = Hq1 := ⟨_, rfl⟩
      rw [eq1] at kq1 rq1 stq1 ⊢
      refine ⟨by show 1 ≤ sizeLine; omega, fun q2 nq2 => ?_⟩
      have kq2 : Kp [] Hq1 (upd Hq1 q2 (.tup [.ref q1])) := Kp.laid nq2
      have rq2 : Rp D.ex (upd Hq1 q2 (.tup [.ref q1])) (.tuple [.tuple [.str "", .str "a"]]) (.ref q2) := rp_new (Dr.sub (stq1.dr.fresh nq2)) nq2 ⟨_, _, rfl, Rp.keep (upk Kp.refl) _ _ rq1, rfl⟩
      have stq2 := stq1.keep kq2
      have ryq := Rp.keep (upk (kq1.trans kq2)) _ _ rya
      obtain ⟨Hq2, eq2⟩ : ∃ Hq2, upd Hq1 q2 (.tup [.ref q1]) = Hq2 := ⟨_, rfl⟩
      rw [eq2] at kq2 rq2 stq2 ryq ⊢
      refine .inl ⟨.ref p, y, .ref q2, es, dO, .tuple [.tuple [.str "", .str "a"]], D.ex, rfl, stq2.rb, hok, h60, stq2.lv, ryq, rq2, fun ds h => by cases h; exact (by decide : (1 : Nat) ≤ 1000), fun hn dd Hb kb hb => ?_, fun i9 h9 => (by rw [noW] at h9; cases h9)⟩
      refine ⟨0, y, by decide, rfl, cl0, (fun b h => by cases h; exact ⟨_, hb⟩), fun _ => ⟨dd, _, rfl, hb, rfl⟩, (fun z => absurd z (by decide)), fun p5 Hc kc h5 => ?_⟩
      have kbc := kb.trans kc
      have good : Good (.tuple [.str "id", dO]) := by
        obtain ⟨a1, a2, a3⟩ := vO
        refine ⟨?_, ?_, ?_⟩
        · have b1 : niceD (.str "id") = true := by decide +kernel
          simp only [niceD, niceAll, Bool.and_eq_true] at b1 ⊢
          exact ⟨b1, a1, trivial⟩
        · simp only [PyData.depth, PyData.depthAll]
          omega
        · have b1 : vol (.str "id") ≤ 100 := by decide +kernel
          simp only [vol, volAll] at b1 ⊢
          omega
      have stc := stq2.keep kbc
      have ryc := Rp.keep (upk kbc) _ _ ryq
      refine nil_on (rp_good (ex := D.ex) (d := .tuple [.str "id", dO]) good ⟨p5, _, rfl, dr_tup stc.dr h5, h5, .str "id", [y], rfl, rfl, y, [], rfl, ryc, rfl⟩ ?_)
      refine ⟨_, rfl, by show 2 ≤ sizeLine; omega, fun T1 nT1 => ?_⟩
      have k1 : Kp [] Hc (upd Hc T1 (.tup [V.str "id", y])) := Kp.laid nT1
      refine nil_on (rp_good (ex := D.ex) (d := .tuple [.str "id", dO]) good ⟨T1, _, rfl, Dr.sub (stc.dr.fresh nT1), upd_same, .str "id", [y], rfl, rfl, y, [], rfl, Rp.keep (upk k1) _ _ ryc, rfl⟩ ?_)
      refine ⟨rfl, _, rfl, ?_⟩
      rw [decide_eq_true rfl]
      refine iteF ?_
      have stF := stc.keep k1
      exact ⟨_, _, _, _, _, _, _, _, _, _, _, _, _, _, rfl, stF.dr.less (by omega), stF.tab⟩
  · rintro σ H' ⟨v2, v3, v4, v5, v6, v7, v8, v9, v10, v11, v12, v13, v14, v15, rfl, d, t⟩
    exact q H'
end
end NV
/-! OwnK -/
set_option Elab.async false
set_option linter.all false
set_option maxRecDepth 100000
set_option maxHeartbeats 600000
/-! an error of the package with an __init__ of its own, as the top has written it -/
namespace NV
open PySem PySem.Spec PyProof.Rows L2
def oexcB (K : PySem.W.Frag) (C : Addr) : Bool := match K.lookup C with
  | some ⟨.type "type", _, .cls cd, sl⟩ => (match cd.mro, sl.toList with
    | .ref C' :: bm, [_, _, _, _, some (.builtin n), _] => C' == C && n == "ValueError.__new__" && !cd.hasDel && cd.hasDict && PySem.HandSPX.refsVE bm
    | _, _ => false)
  | _ => false
theorem oexc_cls {K : PySem.W.Frag} {C : Addr} (q : oexcB K C = true) : ∃ nm q N bs bm sn sub ab col dd k0 k1 k2 k3 k5, K.lookup C = some (excClassObj nm q C N bs bm true sn sub ab col dd k0 k1 k2 k3 k5 "ValueError.__new__") ∧ PySem.HandSPX.refsVE bm = true := by
  unfold oexcB at q
  split at q
  · rename_i dd cd sl ho
    split at q
    · rename_i C' bm k0 k1 k2 k3 n k5 hm hs
      simp only [Bool.and_eq_true, beq_iff_eq, Bool.not_eq_true'] at q
      obtain ⟨⟨⟨⟨rfl, rfl⟩, hdel⟩, hd0⟩, hr⟩ := q
      obtain ⟨nm, bs, mro, ns, qn, hd, sn, sub, ab, col, del⟩ := cd
      dsimp only at hm hdel hd0
      subst hm hdel hd0
      have hsl : sl = #[k0, k1, k2, k3, some (.builtin "ValueError.__new__"), k5] := by
        obtain ⟨l⟩ := sl
        simp only at hs
        rw [hs]
      subst hsl
      exact ⟨nm, qn, ns, bs, bm, sn, sub, ab, col, dd, k0, k1, k2, k3, k5, ho, hr⟩
    · cases q
  · cases q
/-- the questions that have a yes or no -/
def ownB (K : PySem.W.Frag) (C fI : Addr) (f : Str) : Bool := oexcB K C && (decide (PySem.W.findIn K (.ref C) "__setattr__" = some (some (.builtin "object.__setattr__"))) && (decide (PySem.W.subIn K (.ref C) (.type "BaseException") = some true) && (decide (PySem.W.typeIn K (.ref C) = some (.type "type")) && (PySem.W.keepIn K (.ref C) &&
  (decide (PySem.W.findIn K (.ref C) "__init__" = some (some (.ref fI))) && (decide (PySem.W.typeIn K (.ref fI) = some (.type "function")) && (decide (PySem.W.findIn K (.ref C) f = some none) && PySem.W.keepIn K (.ref fI))))))))
/-- the __init__ -/
def AtInit (K : PySem.W.Frag) (q : Str) (cs : Stmt) (fI : Addr) : Prop := ∃ (oc : Value) (od : Option Addr) (kV doc pm : Value) (an : Option Addr) (cd ct : Value) (sl : Array (Option Value)),
  K.lookup fI = some ⟨oc, od, .func (PySem.W.fnOf "__init__" q (defArgs (iniS cs)) (defBody (iniS cs)) (defScope (iniS cs)) .none kV doc pm an cd ct), sl⟩ ∧ PySem.W.codeIn K cd q = true
section
variable {K : PySem.W.Frag} {mg : Str → Option Value} {nm f q : Str} {cs : Stmt} {C fI : Addr}
theorem atInit_mk {oc : Value} {od : Option Addr} {kV doc pm : Value} {an : Option Addr} {cd ct : Value} {sl : Array (Option Value)} (l : K.lookup fI = some ⟨oc, od, .func (PySem.W.fnOf "__init__" q (defArgs (iniS cs)) (defBody (iniS cs)) (defScope (iniS cs)) .none kV doc pm an cd ct), sl⟩) (c : PySem.W.codeIn K cd q = true) : AtInit K q cs fI := ⟨oc, od, kV, doc, pm, an, cd, ct, sl, l, c⟩
theorem own_of (hq : nm ++ ".__init__" = q) (g : mg nm = some (.ref C)) (h : ownB K C fI f = true) (a : AtInit K q cs fI)
    (hb : ∀ (kV doc pm : Value) (an : Option Addr) (cdv ct : Value) (us : List Value), us.length = (["self", f] : List Str).length → bindArgs (PySem.W.fnOf "__init__" (nm ++ ".__init__") (defArgs (iniS cs)) (defBody (iniS cs)) (defScope (iniS cs)) .none kV doc pm an cdv ct) ⟨us, []⟩ = pure ((["self", f] : List Str).zip us)) :
    ∃ D : ErrI K mg nm f cs, D.C = C := by
  unfold ownB at h
  simp only [Bool.and_eq_true, decide_eq_true_eq] at h
  obtain ⟨h1, h2, h3, h4, h5, h6, h7, h8, h9⟩ := h
  obtain ⟨oc, od, kV, doc, pm, an, cd, ct, sl, l, c⟩ := a
  subst hq
  have F := fun_mk (st := iniS cs) l c h9
  exact ⟨⟨C, fI, _, F, F.binds hb, g, ⟨oexc_cls h1, h2, h3, h4, h5⟩, h6, h7, h8⟩, rfl⟩
end
end NV
/-! E08 -/
set_option Elab.async false
set_option linter.all false
set_option maxRecDepth 100000
set_option maxHeartbeats 1000000
namespace NV
open PySem PySem.Spec PyProof.Rows L2
theorem all_mk {l : PySem.W.OpenLaw} {w : World} {K : PySem.W.Frag} {h : Heap} {mg : Str → Option Value} {fa : Addr} (X : K.In h) (G : h.Ns mainGlobals mg) (hmg : mg "law" = some (.ref fa))
    (aIsIntegerWithin : At K "is_integer_within" sIsIntegerWithin)
    (aIsId : At K "is_id" sIsId)
    (aIsCell : At K "is_cell" sIsCell)
    (aIsCells : At K "is_cells" sIsCells)
    (aIsPrice : At K "is_price" sIsPrice)
    (aIsEntryWith : At K "is_entry_with" sIsEntryWith)
    (aIsLogWithin : At K "is_log_within" sIsLogWithin)
    (aIsLog : At K "is_log" sIsLog)
    (aCellsWritten : At K "cells_written" sCellsWritten)
    (aIsWriteAt : At K "is_write_at" sIsWriteAt)
    (aIsReadAt : At K "is_read_at" sIsReadAt)
    (aCheckLog : At K "check_log" sCheckLog)
    (aPositionIn : At K "position_in" sPositionIn)
    (aPositionOfWrite : At K "position_of_write" sPositionOfWrite)
    (aIsEdge : At K "is_edge" sIsEdge)
    (aBlockingWrites : At K "blocking_writes" sBlockingWrites)
    (aReaderPosition : At K "reader_position" sReaderPosition)
    (aPathBlockers : At K "path_blockers" sPathBlockers)
    (aRetractionsFor : At K "retractions_for" sRetractionsFor)
    (aLawBegin : At K "_law_begin" sLawBegin)
    (aLawMixed : At K "_law_mixed" sLawMixed)
    (aLawTake : At K "_law_take" sLawTake)
    (aLawPick : At K "_law_pick" sLawPick)
    (aLawSome : At K "_law_some" sLawSome)
    (aLawCells : At K "_law_cells" sLawCells)
    (aLawIds : At K "_law_ids" sLawIds)
    (aLawPrice : At K "_law_price" sLawPrice)
    (aLawLog : At K "_law_log" sLawLog)
    (aLawSnapshots : At K "_law_snapshots" sLawSnapshots)
    (aLawMet : At K "_law_met" sLawMet)
    (aLawEdges : At K "_law_edges" sLawEdges)
    (aLawAllPaths : At K "_law_all_paths" sLawAllPaths)
    (aLawResult : At K "_law_result" sLawResult)
    (aLawPathRight : At K "_law_path_right" sLawPathRight)
    (aLawChanged : At K "_law_changed" sLawChanged)
    {cLaw PLaw : Addr} {dcLaw : Option Addr} {vcLaw : Array Value} {scLaw_ : Array (Option Value)} (aLaw : AtC K "law" sLaw cLaw) (lLaw : K.lookup cLaw = some ⟨.type "code", dcLaw, .fields vcLaw, scLaw_⟩) (vLaw : vcLaw[11]? = some (.ref PLaw)) (hLaw : PySem.W.codeHdIn K cLaw PLaw = true) (nLaw : K.lookup PLaw = none) (tLaw : h.get? PLaw = some { cls := .none, data := .fields #[] })
    {cLogError : Addr} (xLogError : PySem.W.nsIn K mainGlobals "LogError" = some (some (.ref cLogError)))
    {cInvalidLog : Addr} (xInvalidLog : PySem.W.nsIn K mainGlobals "InvalidLog" = some (some (.ref cInvalidLog)))
    {cUnknownId : Addr} (xUnknownId : PySem.W.nsIn K mainGlobals "UnknownId" = some (some (.ref cUnknownId)))
    {cUnknownCell : Addr} (xUnknownCell : PySem.W.nsIn K mainGlobals "UnknownCell" = some (some (.ref cUnknownCell)))
    {cSealedWrite : Addr} (xSealedWrite : PySem.W.nsIn K mainGlobals "SealedWrite" = some (some (.ref cSealedWrite)))
    {cDuplicateId : Addr} (xDuplicateId : PySem.W.nsIn K mainGlobals "DuplicateId" = some (some (.ref cDuplicateId)))
    {cInvalidBudget : Addr} (xInvalidBudget : PySem.W.nsIn K mainGlobals "InvalidBudget" = some (some (.ref cInvalidBudget)))
    {cNotCompact : Addr} (xNotCompact : PySem.W.nsIn K mainGlobals "NotCompact" = some (some (.ref cNotCompact)))
    (eAll : errAllB K ⟨cLogError, cUnknownId, cUnknownCell, cSealedWrite, cDuplicateId, cInvalidLog, cInvalidBudget, cNotCompact⟩ = true)
    (eInvalidLog : errB K cInvalidLog = true)
    (eInvalidBudget : errB K cInvalidBudget = true)
    (eNotCompact : errB K cNotCompact = true)
    {fUnknownId : Addr} (mUnknownId : PySem.W.findIn K (.ref cUnknownId) "__init__" = some (some (.ref fUnknownId))) (nUnknownId : AtInit K "UnknownId.__init__" sUnknownid fUnknownId) (oUnknownId : ownB K cUnknownId fUnknownId "entry_id" = true)
    (iKIND : AtI K "KIND" 0)
    (iID : AtI K "ID" 1)
    (iREADS : AtI K "READS" 2)
    (iWRITES : AtI K "WRITES" 3)
    (iPRICE : AtI K "PRICE" 4)
    (iLONGEST_CELL : AtI K "LONGEST_CELL" 4)
    (iLONGEST_ID : AtI K "LONGEST_ID" 6)
    (iMOST_CELLS : AtI K "MOST_CELLS" 3)
    (iHIGHEST_PRICE : AtI K "HIGHEST_PRICE" 99)
    (iMOST_ENTRIES : AtI K "MOST_ENTRIES" 60)
    (iEND : AtS K "END" "")
    (z_ValueError : PySem.W.nsIn K mainGlobals "ValueError" = some none)
    (z_abs : PySem.W.nsIn K mainGlobals "abs" = some none)
    (z_bool : PySem.W.nsIn K mainGlobals "bool" = some none)
    (z_dict : PySem.W.nsIn K mainGlobals "dict" = some none)
    (z_enumerate : PySem.W.nsIn K mainGlobals "enumerate" = some none)
    (z_int : PySem.W.nsIn K mainGlobals "int" = some none)
    (z_isinstance : PySem.W.nsIn K mainGlobals "isinstance" = some none)
    (z_len : PySem.W.nsIn K mainGlobals "len" = some none)
    (z_list : PySem.W.nsIn K mainGlobals "list" = some none)
    (z_min : PySem.W.nsIn K mainGlobals "min" = some none)
    (z_range : PySem.W.nsIn K mainGlobals "range" = some none)
    (z_repr : PySem.W.nsIn K mainGlobals "repr" = some none)
    (z_sorted : PySem.W.nsIn K mainGlobals "sorted" = some none)
    (z_str : PySem.W.nsIn K mainGlobals "str" = some none)
    (z_sum : PySem.W.nsIn K mainGlobals "sum" = some none)
    (z_tuple : PySem.W.nsIn K mainGlobals "tuple" = some none)
    : LawG l w K CX0 15 63 "script" mg fa h := by
  have b_ValueError := PySem.W.mg_none_of X G z_ValueError
  have b_abs := PySem.W.mg_none_of X G z_abs
  have b_bool := PySem.W.mg_none_of X G z_bool
  have b_dict := PySem.W.mg_none_of X G z_dict
  have b_enumerate := PySem.W.mg_none_of X G z_enumerate
  have b_int := PySem.W.mg_none_of X G z_int
  have b_isinstance := PySem.W.mg_none_of X G z_isinstance
  have b_len := PySem.W.mg_none_of X G z_len
  have b_list := PySem.W.mg_none_of X G z_list
  have b_min := PySem.W.mg_none_of X G z_min
  have b_range := PySem.W.mg_none_of X G z_range
  have b_repr := PySem.W.mg_none_of X G z_repr
  have b_sorted := PySem.W.mg_none_of X G z_sorted
  have b_str := PySem.W.mg_none_of X G z_str
  have b_sum := PySem.W.mg_none_of X G z_sum
  have b_tuple := PySem.W.mg_none_of X G z_tuple
  have gKIND := at_int X G iKIND
  have gID := at_int X G iID
  have gREADS := at_int X G iREADS
  have gWRITES := at_int X G iWRITES
  have gPRICE := at_int X G iPRICE
  have gLONGEST_CELL := at_int X G iLONGEST_CELL
  have gLONGEST_ID := at_int X G iLONGEST_ID
  have gMOST_CELLS := at_int X G iMOST_CELLS
  have gHIGHEST_PRICE := at_int X G iHIGHEST_PRICE
  have gMOST_ENTRIES := at_int X G iMOST_ENTRIES
  have gEND := at_str X G iEND
  have gLogError := PySem.W.mg_of X G xLogError
  have gInvalidLog := PySem.W.mg_of X G xInvalidLog
  have gUnknownId := PySem.W.mg_of X G xUnknownId
  have gUnknownCell := PySem.W.mg_of X G xUnknownCell
  have gSealedWrite := PySem.W.mg_of X G xSealedWrite
  have gDuplicateId := PySem.W.mg_of X G xDuplicateId
  have gInvalidBudget := PySem.W.mg_of X G xInvalidBudget
  have gNotCompact := PySem.W.mg_of X G xNotCompact
  obtain ⟨XUnknownId, rfl⟩ := own_of (nm := "UnknownId") (q := "UnknownId.__init__") (cs := sUnknownid) (by decide +kernel) gUnknownId oUnknownId nUnknownId fun _ _ _ _ _ _ us hl => match us, hl with | [_, _], _ => rfl
  obtain ⟨DLaw, CLaw⟩ := fnc_at X G aLaw (ps := ["script"]) fun _ _ _ _ _ _ us hl => match us, hl with | [_], _ => rfl
  obtain ⟨DIsIntegerWithin⟩ := fn_at X G aIsIntegerWithin (ps := ["value", "lowest", "highest"]) fun _ _ _ _ _ _ us hl => match us, hl with | [_, _, _], _ => rfl
  obtain ⟨DIsId⟩ := fn_at X G aIsId (ps := ["value"]) fun _ _ _ _ _ _ us hl => match us, hl with | [_], _ => rfl
  obtain ⟨DIsCell⟩ := fn_at X G aIsCell (ps := ["value"]) fun _ _ _ _ _ _ us hl => match us, hl with | [_], _ => rfl
  obtain ⟨DIsCells⟩ := fn_at X G aIsCells (ps := ["value", "fewest", "known"]) fun _ _ _ _ _ _ us hl => match us, hl with | [_, _, _], _ => rfl
  obtain ⟨DIsPrice⟩ := fn_at X G aIsPrice (ps := ["value"]) fun _ _ _ _ _ _ us hl => match us, hl with | [_], _ => rfl
  obtain ⟨DIsEntryWith⟩ := fn_at X G aIsEntryWith (ps := ["value", "known"]) fun _ _ _ _ _ _ us hl => match us, hl with | [_, _], _ => rfl
  obtain ⟨DIsLogWithin⟩ := fn_at X G aIsLogWithin (ps := ["value", "most"]) fun _ _ _ _ _ _ us hl => match us, hl with | [_, _], _ => rfl
  obtain ⟨DIsLog⟩ := fn_at X G aIsLog (ps := ["value"]) fun _ _ _ _ _ _ us hl => match us, hl with | [_], _ => rfl
  obtain ⟨DCellsWritten⟩ := fn_at X G aCellsWritten (ps := ["entry"]) fun _ _ _ _ _ _ us hl => match us, hl with | [_], _ => rfl
  obtain ⟨DIsWriteAt⟩ := fn_at X G aIsWriteAt (ps := ["log", "position"]) fun _ _ _ _ _ _ us hl => match us, hl with | [_, _], _ => rfl
  obtain ⟨DIsReadAt⟩ := fn_at X G aIsReadAt (ps := ["log", "position", "cell"]) fun _ _ _ _ _ _ us hl => match us, hl with | [_, _, _], _ => rfl
  obtain ⟨DCheckLog⟩ := fn_at X G aCheckLog (ps := ["log"]) fun _ _ _ _ _ _ us hl => match us, hl with | [_], _ => rfl
  obtain ⟨DPositionIn⟩ := fn_at X G aPositionIn (ps := ["log", "entry_id"]) fun _ _ _ _ _ _ us hl => match us, hl with | [_, _], _ => rfl
  obtain ⟨DPositionOfWrite⟩ := fn_at X G aPositionOfWrite (ps := ["log", "entry_id"]) fun _ _ _ _ _ _ us hl => match us, hl with | [_, _], _ => rfl
  obtain ⟨DIsEdge⟩ := fn_at X G aIsEdge (ps := ["log", "start", "stop", "cell"]) fun _ _ _ _ _ _ us hl => match us, hl with | [_, _, _, _], _ => rfl
  obtain ⟨DBlockingWrites⟩ := fn_at X G aBlockingWrites (ps := ["log", "start", "stop", "cell"]) fun _ _ _ _ _ _ us hl => match us, hl with | [_, _, _, _], _ => rfl
  obtain ⟨DReaderPosition⟩ := fn_at X G aReaderPosition (ps := ["log", "start", "step"]) fun _ _ _ _ _ _ us hl => match us, hl with | [_, _, _], _ => rfl
  obtain ⟨DPathBlockers⟩ := fn_at X G aPathBlockers (ps := ["log", "start", "path"]) fun _ _ _ _ _ _ us hl => match us, hl with | [_, _, _], _ => rfl
  obtain ⟨DRetractionsFor⟩ := fn_at X G aRetractionsFor (ps := ["log", "entry_id", "path"]) fun _ _ _ _ _ _ us hl => match us, hl with | [_, _, _], _ => rfl
  obtain ⟨DLawBegin⟩ := fn_at X G aLawBegin (ps := ["script"]) fun _ _ _ _ _ _ us hl => match us, hl with | [_], _ => rfl
  obtain ⟨DLawMixed⟩ := fn_at X G aLawMixed (ps := ["draw"]) fun _ _ _ _ _ _ us hl => match us, hl with | [_], _ => rfl
  obtain ⟨DLawTake⟩ := fn_at X G aLawTake (ps := ["draw", "size"]) fun _ _ _ _ _ _ us hl => match us, hl with | [_, _], _ => rfl
  obtain ⟨DLawPick⟩ := fn_at X G aLawPick (ps := ["draw", "some"]) fun _ _ _ _ _ _ us hl => match us, hl with | [_, _], _ => rfl
  obtain ⟨DLawSome⟩ := fn_at X G aLawSome (ps := ["draw", "things", "least", "most"]) fun _ _ _ _ _ _ us hl => match us, hl with | [_, _, _, _], _ => rfl
  obtain ⟨DLawCells⟩ := fn_at X G aLawCells (ps := ["draw", "many"]) fun _ _ _ _ _ _ us hl => match us, hl with | [_, _], _ => rfl
  obtain ⟨DLawIds⟩ := fn_at X G aLawIds (ps := ["draw", "many"]) fun _ _ _ _ _ _ us hl => match us, hl with | [_, _], _ => rfl
  obtain ⟨DLawPrice⟩ := fn_at X G aLawPrice (ps := ["draw"]) fun _ _ _ _ _ _ us hl => match us, hl with | [_], _ => rfl
  obtain ⟨DLawLog⟩ := fn_at X G aLawLog (ps := ["draw", "many", "cells"]) fun _ _ _ _ _ _ us hl => match us, hl with | [_, _, _], _ => rfl
  obtain ⟨DLawSnapshots⟩ := fn_at X G aLawSnapshots (ps := ["entries", "gone"]) fun _ _ _ _ _ _ us hl => match us, hl with | [_, _], _ => rfl
  obtain ⟨DLawMet⟩ := fn_at X G aLawMet (ps := ["entries", "goal", "gone"]) fun _ _ _ _ _ _ us hl => match us, hl with | [_, _, _], _ => rfl
  obtain ⟨DLawEdges⟩ := fn_at X G aLawEdges (ps := ["entries", "one"]) fun _ _ _ _ _ _ us hl => match us, hl with | [_, _], _ => rfl
  obtain ⟨DLawAllPaths⟩ := fn_at X G aLawAllPaths (ps := ["entries", "one"]) fun _ _ _ _ _ _ us hl => match us, hl with | [_, _], _ => rfl
  obtain ⟨DLawResult⟩ := fn_at X G aLawResult (ps := ["work"]) fun _ _ _ _ _ _ us hl => match us, hl with | [_], _ => rfl
  obtain ⟨DLawPathRight⟩ := fn_at X G aLawPathRight (ps := ["book", "at", "price", "road", "between"]) fun _ _ _ _ _ _ us hl => match us, hl with | [_, _, _, _, _], _ => rfl
  obtain ⟨DLawChanged⟩ := fn_at X G aLawChanged (ps := ["draw", "book", "spots", "road"]) fun _ _ _ _ _ _ us hl => match us, hl with | [_, _, _, _], _ => rfl
  obtain rfl : fa = DLaw.f := by
    have e := hmg.symm.trans DLaw.m
    cases e
    rfl
  refine ⟨DLaw.fd, [(cLaw, PLaw)], spLaw K PLaw, ⟨(fun p hp => by rw [List.mem_singleton.mp hp]; exact tLaw), (fun p hp => by rw [List.mem_singleton.mp hp]; exact nLaw), fun p hp => by rw [List.mem_singleton.mp hp]; exact PySem.W.codeHd_of_K X hLaw⟩, law_binds DLaw.F (fun _ _ _ _ _ _ u => rfl), fun H a ns hl _ hT hS => ⟨a, ns, rfl, hS, hl, LamX.TabS.nil (hT (cLaw, PLaw) (by simp)), fun H' => rfl⟩, fun base KB NB TBs => ?_⟩
  have TB : LamX.TabB base mg cLaw PLaw := TBs (cLaw, PLaw) (by simp)
  have hA := eAll
  unfold errAllB at hA
  simp only [Bool.and_eq_true, List.all_eq_true, List.mem_range] at hA
  obtain ⟨hcl, hf0, hf1, hf2, hf3⟩ := hA
  have Te : ErrTop mg ⟨cLogError, XUnknownId.C, cUnknownCell, cSealedWrite, cDuplicateId, cInvalidLog, cInvalidBudget, cNotCompact⟩ := ⟨gLogError, gUnknownId, gUnknownCell, gSealedWrite, gDuplicateId, gInvalidLog, gInvalidBudget, gNotCompact⟩
  obtain ⟨XL, rfl⟩ := err_of gInvalidLog eInvalidLog
  have BRetractionsFor0 : KBn K DRetractionsFor.fd ["log", "entry_id", "path"] 0 ["path", "log", "entry_id"] (fun _ ws => [ws.getD 1 .none, ws.getD 2 .none, ws.getD 0 .none]) (fun _ zs => [zs.getD 1 .non, zs.getD 2 .non, zs.getD 0 .non]) := kbn_mk DRetractionsFor.F (fun _ _ _ _ _ _ us ws h1 h2 => match us, ws, h1, h2 with | [], [_, _, _], _, _ => rfl) fun _ r2 => by
    cases r2 with
    | nil => exact .cons rfl (.cons rfl (.cons rfl .nil))
    | cons h1 r2 => cases r2 with
      | nil => exact .cons rfl (.cons rfl (.cons h1 .nil))
      | cons h2 r2 => cases r2 with
        | nil => exact .cons h2 (.cons rfl (.cons h1 .nil))
        | cons h3 r2 => exact .cons h2 (.cons h3 (.cons h1 .nil))
  have GIsIntegerWithin := ok_pwithin (P := l.prog) (w := w) (base := base) DIsIntegerWithin b_isinstance b_int b_bool
  have GIsPrice := ok_pprice (P := l.prog) (w := w) (base := base) DIsPrice DIsIntegerWithin gHIGHEST_PRICE GIsIntegerWithin
  have GIsId := ok_pid (P := l.prog) (w := w) (base := base) DIsId b_isinstance b_len b_str gLONGEST_ID
  have GIsCell := ok_pcell (P := l.prog) (w := w) (base := base) DIsCell DIsId b_len gLONGEST_CELL GIsId
  have GIsCells := ok_pcells (P := l.prog) (w := w) (base := base) DIsCells DIsCell b_isinstance b_len b_tuple b_str gMOST_CELLS GIsCell
  have GIsEntryWith := ok_pentryk (P := l.prog) (w := w) (base := base) DIsEntryWith DIsId DIsPrice DIsCells b_isinstance b_len b_tuple GIsId GIsPrice GIsCells
  have GIsLogWithin := ok_plogw (P := l.prog) (w := w) (base := base) DIsLogWithin DIsEntryWith b_isinstance b_len b_tuple gID GIsEntryWith
  have GIsLog := ok_plog (P := l.prog) (w := w) (base := base) DIsLog DIsLogWithin gMOST_ENTRIES GIsLogWithin
  have GCheckLog := ok_checklog (P := l.prog) (w := w) (base := base) DCheckLog DIsLog GIsLog
  have XCheckLog := ok_checklogX (P := l.prog) (w := w) (base := base) DCheckLog DIsLog XL gMOST_ENTRIES GIsLog
  have GI := ok_initUnknownid (P := l.prog) (w := w) (base := base) XUnknownId
  have GIsWriteAt := ok_writeat (P := l.prog) (w := w) (base := base) DIsWriteAt b_len gKIND
  have XPositionIn := ok_posX (P := l.prog) (w := w) (base := base) DPositionIn XUnknownId GI b_len b_enumerate gEND gID
  have XPositionOfWrite := ok_wposX (P := l.prog) (w := w) (base := base) DPositionOfWrite DPositionIn DIsWriteAt XUnknownId GI XPositionIn GIsWriteAt
  have GCellsWritten := ok_cellsw (P := l.prog) (w := w) (base := base) DCellsWritten gKIND gWRITES
  have GIsReadAt := ok_readatB (P := l.prog) (w := w) (base := base) DIsReadAt DIsCell b_len gREADS GIsCell
  have GIsEdge := ok_edge (P := l.prog) (w := w) (base := base) DIsEdge DCellsWritten DIsReadAt GCellsWritten GIsReadAt
  have GBlockingWrites := ok_betw (P := l.prog) (w := w) (base := base) DBlockingWrites DCellsWritten GCellsWritten
  have GReaderPosition := ok_reader (P := l.prog) (w := w) (base := base) DReaderPosition DIsEdge b_isinstance b_tuple b_len gID gEND GIsEdge
  have GPathBlockers := ok_blkrs (P := l.prog) (w := w) (base := base) DPathBlockers DReaderPosition DBlockingWrites DIsWriteAt b_isinstance b_tuple gID gPRICE GReaderPosition GBlockingWrites GIsWriteAt
  have XRetr := ok_retrF (P := l.prog) (w := w) (base := base) DRetractionsFor DCheckLog DPositionOfWrite DPathBlockers XUnknownId GI GCheckLog XPositionOfWrite GPathBlockers
  have XRetractionsFor := NV.FnOk.or XRetr (ok_retrBad DRetractionsFor DCheckLog XCheckLog)
  have GLawTake := ok_take (P := l.prog) (w := w) (base := base) DLawTake DLawMixed
  have GLawPick := ok_pick (P := l.prog) (w := w) (base := base) DLawPick DLawTake b_len GLawTake
  have GLawSome := ok_some (P := l.prog) (w := w) (base := base) DLawSome DLawTake b_len b_list b_tuple b_sorted b_range b_min GLawTake
  have GLawCells := ok_cells (P := l.prog) (w := w) (base := base) DLawCells DLawTake b_len b_sorted b_range GLawTake
  have GLawIds := ok_ids (P := l.prog) (w := w) (base := base) DLawIds DLawTake b_len b_str b_range b_min GLawTake
  have GLawPrice := ok_price (P := l.prog) (w := w) (base := base) DLawPrice DLawTake DLawPick GLawTake GLawPick
  have GLawLog := ok_logF (P := l.prog) (w := w) (base := base) DLawLog DLawTake DLawPick DLawPrice DLawSome DLawIds b_tuple GLawTake GLawPick GLawPrice GLawSome GLawIds
  have GLawBegin := ok_begin (P := l.prog) (w := w) (base := base) DLawBegin b_abs
  have GLawEdges := ok_edges (P := l.prog) (w := w) (base := base) DLawEdges b_range b_len b_list
  have GLawAllPaths := ok_pathsF (P := l.prog) (w := w) (base := base) DLawAllPaths DLawEdges b_len b_sum GLawEdges 6

  have GLawMet := ok_met (P := l.prog) (w := w) (base := base) DLawMet DLawSnapshots b_enumerate b_dict b_len b_sorted
  have GLawPathRight := ok_pathR (P := l.prog) (w := w) (base := base) DLawPathRight DRetractionsFor DLawMet b_sorted b_range b_sum GLawMet XRetractionsFor
  have GLawChanged := ok_chg (P := l.prog) (w := w) (base := base) DLawChanged DLawTake DLawPick b_len b_list GLawTake GLawPick
  exact ok_law DLaw CLaw DLawBegin DLawTake DLawPick DLawCells DLawLog DLawAllPaths DLawPathRight DLawChanged DLawResult DRetractionsFor BRetractionsFor0 b_len b_range b_min b_isinstance b_repr b_list b_tuple b_enumerate b_dict b_ValueError Te (errFld_of hf0) (errFld_of hf1) (errFld_of hf2) (errFld_of hf3) (errCls_of (hcl 0 (by decide))) (errCls_of (hcl 4 (by decide))) TB GLawBegin GLawTake GLawPick GLawCells GLawLog GLawAllPaths GLawPathRight GLawChanged XRetractionsFor
end NV
open PySem PySem.W PyProof.Rows
set_option maxRecDepth 100000 in
set_option maxHeartbeats 0 in
theorem PySem.Challenge.cw_neverwas_k08_retractions_along_paths_holds : PySem.Challenge.rw_neverwas_k08_retractions_along_paths.Holds := by
  w_on; o_law; k_head; (case hw => w_witness2)
  k_fill
  refine NV.walk_ofG (l := PySem.Challenge.rw_neverwas_k08_retractions_along_paths) (n := 63) (k := 15) (x := "script") rfl (by decide) rfl ⟨rfl, by decide, by decide⟩ (fun w h Y => PySem.W.km_in_of Y) ?F
  case F =>
    intro w mg fa h Y KX G hmg
    refine' NV.all_mk KX G hmg ?aIsIntegerWithin ?aIsId ?aIsCell ?aIsCells ?aIsPrice ?aIsEntryWith ?aIsLogWithin ?aIsLog ?aCellsWritten ?aIsWriteAt ?aIsReadAt ?aCheckLog ?aPositionIn ?aPositionOfWrite ?aIsEdge ?aBlockingWrites ?aReaderPosition ?aPathBlockers ?aRetractionsFor ?aLawBegin ?aLawMixed ?aLawTake ?aLawPick ?aLawSome ?aLawCells ?aLawIds ?aLawPrice ?aLawLog ?aLawSnapshots ?aLawMet ?aLawEdges ?aLawAllPaths ?aLawResult ?aLawPathRight ?aLawChanged ?aLaw ?lLaw ?vLaw ?hLaw ?nLaw ?tLaw ?xLogError ?xInvalidLog ?xUnknownId ?xUnknownCell ?xSealedWrite ?xDuplicateId ?xInvalidBudget ?xNotCompact ?eAll ?eInvalidLog ?eInvalidBudget ?eNotCompact ?mUnknownId ?nUnknownId ?oUnknownId ?iKIND ?iID ?iREADS ?iWRITES ?iPRICE ?iLONGEST_CELL ?iLONGEST_ID ?iMOST_CELLS ?iHIGHEST_PRICE ?iMOST_ENTRIES ?iEND ?z_ValueError ?z_abs ?z_bool ?z_dict ?z_enumerate ?z_int ?z_isinstance ?z_len ?z_list ?z_min ?z_range ?z_repr ?z_sorted ?z_str ?z_sum ?z_tuple
    (case aLaw => refine' NV.atC_mk ?a ?l ?c ?k; (case a => k_is); (case l => k_is); (case c => k_is); (case k => k_is))
    (case lLaw => k_is)
    (case vLaw => exact rfl)
    (case hLaw => kernel_rfl)
    (case nLaw => kernel_rfl)
    (case tLaw => exact PySem.W.km_tabs_of Y _ (by k_mem))
    (case xLogError => k_is)
    (case xInvalidLog => k_is)
    (case xUnknownId => k_is)
    (case xUnknownCell => k_is)
    (case xSealedWrite => k_is)
    (case xDuplicateId => k_is)
    (case xInvalidBudget => k_is)
    (case xNotCompact => k_is)
    (case eAll => kernel_rfl)
    (case eInvalidLog => kernel_rfl)
    (case eInvalidBudget => kernel_rfl)
    (case eNotCompact => kernel_rfl)
    (case mUnknownId => k_is)
    (case nUnknownId => refine' NV.atInit_mk ?l ?c; (case l => k_is); (case c => k_is))
    (case oUnknownId => kernel_rfl)
    (case aIsIntegerWithin => refine' NV.at_mk ?a ?l ?c ?k; (case a => k_is); (case l => k_is); (case c => k_is); (case k => k_is))
    (case aIsId => refine' NV.at_mk ?a ?l ?c ?k; (case a => k_is); (case l => k_is); (case c => k_is); (case k => k_is))
    (case aIsCell => refine' NV.at_mk ?a ?l ?c ?k; (case a => k_is); (case l => k_is); (case c => k_is); (case k => k_is))
    (case aIsCells => refine' NV.at_mk ?a ?l ?c ?k; (case a => k_is); (case l => k_is); (case c => k_is); (case k => k_is))
    (case aIsPrice => refine' NV.at_mk ?a ?l ?c ?k; (case a => k_is); (case l => k_is); (case c => k_is); (case k => k_is))
    (case aIsEntryWith => refine' NV.at_mk ?a ?l ?c ?k; (case a => k_is); (case l => k_is); (case c => k_is); (case k => k_is))
    (case aIsLogWithin => refine' NV.at_mk ?a ?l ?c ?k; (case a => k_is); (case l => k_is); (case c => k_is); (case k => k_is))
    (case aIsLog => refine' NV.at_mk ?a ?l ?c ?k; (case a => k_is); (case l => k_is); (case c => k_is); (case k => k_is))
    (case aCellsWritten => refine' NV.at_mk ?a ?l ?c ?k; (case a => k_is); (case l => k_is); (case c => k_is); (case k => k_is))
    (case aIsWriteAt => refine' NV.at_mk ?a ?l ?c ?k; (case a => k_is); (case l => k_is); (case c => k_is); (case k => k_is))
    (case aIsReadAt => refine' NV.at_mk ?a ?l ?c ?k; (case a => k_is); (case l => k_is); (case c => k_is); (case k => k_is))
    (case aCheckLog => refine' NV.at_mk ?a ?l ?c ?k; (case a => k_is); (case l => k_is); (case c => k_is); (case k => k_is))
    (case aPositionIn => refine' NV.at_mk ?a ?l ?c ?k; (case a => k_is); (case l => k_is); (case c => k_is); (case k => k_is))
    (case aPositionOfWrite => refine' NV.at_mk ?a ?l ?c ?k; (case a => k_is); (case l => k_is); (case c => k_is); (case k => k_is))
    (case aIsEdge => refine' NV.at_mk ?a ?l ?c ?k; (case a => k_is); (case l => k_is); (case c => k_is); (case k => k_is))
    (case aBlockingWrites => refine' NV.at_mk ?a ?l ?c ?k; (case a => k_is); (case l => k_is); (case c => k_is); (case k => k_is))
    (case aReaderPosition => refine' NV.at_mk ?a ?l ?c ?k; (case a => k_is); (case l => k_is); (case c => k_is); (case k => k_is))
    (case aPathBlockers => refine' NV.at_mk ?a ?l ?c ?k; (case a => k_is); (case l => k_is); (case c => k_is); (case k => k_is))
    (case aRetractionsFor => refine' NV.at_mk ?a ?l ?c ?k; (case a => k_is); (case l => k_is); (case c => k_is); (case k => k_is))
    (case aLawBegin => refine' NV.at_mk ?a ?l ?c ?k; (case a => k_is); (case l => k_is); (case c => k_is); (case k => k_is))
    (case aLawMixed => refine' NV.at_mk ?a ?l ?c ?k; (case a => k_is); (case l => k_is); (case c => k_is); (case k => k_is))
    (case aLawTake => refine' NV.at_mk ?a ?l ?c ?k; (case a => k_is); (case l => k_is); (case c => k_is); (case k => k_is))
    (case aLawPick => refine' NV.at_mk ?a ?l ?c ?k; (case a => k_is); (case l => k_is); (case c => k_is); (case k => k_is))
    (case aLawSome => refine' NV.at_mk ?a ?l ?c ?k; (case a => k_is); (case l => k_is); (case c => k_is); (case k => k_is))
    (case aLawCells => refine' NV.at_mk ?a ?l ?c ?k; (case a => k_is); (case l => k_is); (case c => k_is); (case k => k_is))
    (case aLawIds => refine' NV.at_mk ?a ?l ?c ?k; (case a => k_is); (case l => k_is); (case c => k_is); (case k => k_is))
    (case aLawPrice => refine' NV.at_mk ?a ?l ?c ?k; (case a => k_is); (case l => k_is); (case c => k_is); (case k => k_is))
    (case aLawLog => refine' NV.at_mk ?a ?l ?c ?k; (case a => k_is); (case l => k_is); (case c => k_is); (case k => k_is))
    (case aLawSnapshots => refine' NV.at_mk ?a ?l ?c ?k; (case a => k_is); (case l => k_is); (case c => k_is); (case k => k_is))
    (case aLawMet => refine' NV.at_mk ?a ?l ?c ?k; (case a => k_is); (case l => k_is); (case c => k_is); (case k => k_is))
    (case aLawEdges => refine' NV.at_mk ?a ?l ?c ?k; (case a => k_is); (case l => k_is); (case c => k_is); (case k => k_is))
    (case aLawAllPaths => refine' NV.at_mk ?a ?l ?c ?k; (case a => k_is); (case l => k_is); (case c => k_is); (case k => k_is))
    (case aLawResult => refine' NV.at_mk ?a ?l ?c ?k; (case a => k_is); (case l => k_is); (case c => k_is); (case k => k_is))
    (case aLawPathRight => refine' NV.at_mk ?a ?l ?c ?k; (case a => k_is); (case l => k_is); (case c => k_is); (case k => k_is))
    (case aLawChanged => refine' NV.at_mk ?a ?l ?c ?k; (case a => k_is); (case l => k_is); (case c => k_is); (case k => k_is))
    (case iKIND => refine' NV.atI_mk ?a; (case a => k_is))
    (case iID => refine' NV.atI_mk ?a; (case a => k_is))
    (case iREADS => refine' NV.atI_mk ?a; (case a => k_is))
    (case iWRITES => refine' NV.atI_mk ?a; (case a => k_is))
    (case iPRICE => refine' NV.atI_mk ?a; (case a => k_is))
    (case iLONGEST_CELL => refine' NV.atI_mk ?a; (case a => k_is))
    (case iLONGEST_ID => refine' NV.atI_mk ?a; (case a => k_is))
    (case iMOST_CELLS => refine' NV.atI_mk ?a; (case a => k_is))
    (case iHIGHEST_PRICE => refine' NV.atI_mk ?a; (case a => k_is))
    (case iMOST_ENTRIES => refine' NV.atI_mk ?a; (case a => k_is))
    (case iEND => refine' NV.atS_mk ?a; (case a => k_is))
    (case z_ValueError => k_is)
    (case z_abs => k_is)
    (case z_bool => k_is)
    (case z_dict => k_is)
    (case z_enumerate => k_is)
    (case z_int => k_is)
    (case z_isinstance => k_is)
    (case z_len => k_is)
    (case z_list => k_is)
    (case z_min => k_is)
    (case z_range => k_is)
    (case z_repr => k_is)
    (case z_sorted => k_is)
    (case z_str => k_is)
    (case z_sum => k_is)
    (case z_tuple => k_is)
