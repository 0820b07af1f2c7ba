import PyProof.Rows.All
import Wide.All
import OpenK.AllK
import Wide.FinOn
import HandS.ForMost
import HandS.Strs
import HandS.IsInst
import HandS.Codes
import PyProof.Rows.StrMeet
import PyProof.Rows.StrRevDown
import PyProof.ReprRoads
import PyProof.CallFns
import HandS.EndTab
import KE.DataMinMax
import HandS.SetFor
import HandS.SetBool
import PyProof.StrLawsIn
import PyProof.NeKinds
import PyProof.Rows.ReprOcc
import HandS.TupAny
import PyProof.Rows.StrAscii
import HandS.StrMore
import PyProof.EqKinds
import PyProof.FactsAll.dict_1
import HandS.Style
import HandS.AnyAll
import HandS.GenList
import HandS.Small
import HandS.Rev
import HandS.Flow
import HandS.Iter
import KE.GoesMore
import HandS.DictComp
import HandS.DictTup
import KE.KDictDisplayH
import HandS.SetKeys
import HandS.Defaults
import HandS.NoneIn
import KE.KDictLaw
import HandS.More
import PyProof.P3Eq
import HandS.ForExc
import HandS.FStr
import HandS.RaiseMore
import HandS.ExcInit
import HandS.Exc
import HandS.ExcIs
import HandS.ExcField
import HandS.Lambda
import HandS.MakeKwOnly
import PySem.Challenge.RW_neverwas_k04_retractions_and_targets_ref
/-! Base -/
set_option Elab.async false
set_option linter.all false
set_option maxRecDepth 100000
namespace NV
open PySem PySem.Spec PyProof.Rows L2
def topS (i : Nat) : Stmt := PySem.Challenge.pw_neverwas_k04_retractions_and_targets_ref.main.body.getD i (.Pass ⟨0, 0, 0, 0⟩)
/-- a def of the top: where it stands, and that its name still holds it -/
structure Fn (K : PySem.W.Frag) (mg : Str → Option Value) (nm : Str) (st : Stmt) (ps : List Str) : Type where
  f : Addr
  fd : FuncData
  F : Fun K nm nm st f fd
  m : mg nm = some (.ref f)
  b : Binds K fd ps []
section
variable {X : Cx}
theorem pe_fn {nm : Str} {st : Stmt} {ps : List Str} {sp : Sp} {e : Expr} {es : List Expr} {t : TA} {p pos : Pos} {j k : Nat} (D : Fn X.K X.mg nm st ps) (G : FnOk X.prog X.w X.K X.mg X.base CX0 j D.f D.fd ps sp) (hr : Room k X.A) (ha : PA X (e :: es) t)
    (hk : j ≤ k := by decide) (hg : Gl X nm := by rfl) (hdb : (nm == ("__debug__" : Str)) = false := by decide) (he : starEach (e :: es) X.env = (false, eval e X.env) :: starEach es X.env := by rfl) (hpl : (backTo pos (starEach es X.env)).any (·.1) = false := by rfl) :
    PE X (.Call (.Name nm p) (e :: es) [] pos) (tCall sp [] (fun _ _ _ => False) t) := pe_call G (hr.mono hk) hg D.m D.F.kp D.b .nil pass0 ha hdb he hpl
end
/-! ### the rules whose reading names the written part, with that part as an argument: for the blocks of comprehensions -/
section
variable {X : Cx}
theorem lenE (K : PySem.W.Frag) (h : X.K = K := by rfl) : CallR X (.builtin "len") (fun xs H Q => ∃ p ys, xs = [.ref p] ∧ (SqL K H p ys ∨ SqT K H p ys) ∧ Q (.int ys.length) H) := by
  rw [← h]; exact call_len_seq
theorem lenVE (K : PySem.W.Frag) (h : X.K = K := by rfl) : CallR X (.builtin "len") (fun xs H Q => ∃ x n, xs = [x] ∧ LenV K x H n ∧ Q (.int n) H) := by
  rw [← h]; exact call_len
theorem listE (K : PySem.W.Frag) (h : X.K = K := by rfl) : CallR X (.type "list") (fun xs H Q => ∃ p ys, xs = [.ref p] ∧ (SqL K H p ys ∨ SqT K H p ys) ∧ ∀ l, H l = none → Q (.ref l) (upd H l (.lst ys))) := by
  rw [← h]; exact call_list_of
theorem sortedE (K : PySem.W.Frag) (h : X.K = K := by rfl) : CallR X (.builtin "sorted") (rSortedS K) := by
  rw [← h]; exact cr_sortedS
theorem ixlE (K : PySem.W.Frag) (h : X.K = K := by rfl) : IxR X (rIxL K) := by
  rw [← h]; exact ix_list
theorem ixtE (K : PySem.W.Frag) (h : X.K = K := by rfl) : IxR X (rIxT K) := by
  rw [← h]; exact ix_tup
theorem sllE (K : PySem.W.Frag) (h : X.K = K := by rfl) : SlR X (rSlL K) := by
  rw [← h]; exact sl_list
theorem sltE (K : PySem.W.Frag) (h : X.K = K := by rfl) : SlR X (rSlT K) := by
  rw [← h]; exact sl_tup
theorem inE (K : PySem.W.Frag) (h : X.K = K := by rfl) : OpR X (compareOp .In) (rIn K false) := by
  rw [← h]; exact op_in_seq
theorem notInE (K : PySem.W.Frag) (h : X.K = K := by rfl) : OpR X (compareOp .NotIn) (rIn K true) := by
  rw [← h]; exact op_notIn_seq
theorem eqDE (K : PySem.W.Frag) (hu : X.A.units + 64 < cLine) (h : X.K = K := by rfl) : OpR X (compareOp .Eq) (rEqD K) := by
  rw [← h]; exact op_eqD hu
theorem neDE (K : PySem.W.Frag) (hu : X.A.units + 64 < cLine) (h : X.K = K := by rfl) : OpR X (compareOp .NotEq) (rNeD K) := by
  rw [← h]; exact op_neD hu
theorem bmE (K : PySem.W.Frag) {T name id : String} {r : V → List V → Hp → VK → Prop} {o e : Expr} {es : List Expr} {to : TE} {t : TA} {apos cpos : Pos} (pa : PlainAttrs T) (slot : Slot T name id) (hty : typeOf (.builtin id) = pure (.type "method_descriptor")) (hm : MtR X id r) (ho : PE X o to) (ha : PA X (e :: es) t) (h : X.K = K := by rfl)
    (hbase : attributeBase o name X.env (eval o X.env) = eval o X.env := by rfl)
    (hfew : ((backTo cpos (starEach (e :: es) X.env)).all (fun x => !x.1) && (backToKw cpos (keywordEach [] X.env)).all (fun x => x.1.isSome)
      && decide ((e :: es).length + ([] : List Keyword).length + (if ([] : List Keyword).isEmpty then 0 else 1) < 30)) = true := by rfl)
    (hline : (apos.endLine == cpos.line) = true := by rfl) (hs : starEach (e :: es) X.env = (false, eval e X.env) :: starEach es X.env := by rfl) (hplain : (backTo cpos (starEach es X.env)).any (·.1) = false := by rfl) :
    PE X (.Call (.Attribute o name apos) (e :: es) [] cpos) (tBM K T r to t) := by
  rw [← h]; exact pe_bm pa slot hty hm ho ha hbase hfew hline hs hplain
theorem piListE (K : PySem.W.Frag) {tg l : Expr} {tl : TE} (hl : PE X l tl) (h : X.K = K := by rfl) : PI X tg l (iList K tl) := by
  rw [← h]; exact pi_list hl
theorem piTupE (K : PySem.W.Frag) {tg l : Expr} {tl : TE} (hl : PE X l tl) (h : X.K = K := by rfl) : PI X tg l (iTup K tl) := by
  rw [← h]; exact pi_tup hl
end
/-! ### what is kept -/
/-- all but ex stands as it stood -/
def Kp (ex : List Addr) (H H' : Hp) : Prop := ∀ b o, b ∉ ex → H b = some o → H' b = some o
theorem Kp.refl {ex : List Addr} {H : Hp} : Kp ex H H := fun _ _ _ e => e
theorem Kp.trans {ex : List Addr} {H H1 H2 : Hp} (a : Kp ex H H1) (b : Kp ex H1 H2) : Kp ex H H2 := fun c o h e => b c o h (a c o h e)
theorem Kp.of {ex : List Addr} {H H' : Hp} (a : Same H H') : Kp ex H H' := fun b o _ e => a b o e
theorem Kp.laid {ex : List Addr} {H : Hp} {p : Addr} {o : HO} (h : H p = none) : Kp ex H (upd H p o) := fun b u _ e => by rw [upd_ne (ne_of_none e h)]; exact e
theorem Kp.put {ex : List Addr} {H : Hp} {p : Addr} {o : HO} (h : p ∈ ex) : Kp ex H (upd H p o) := fun b u hb e => by rw [upd_ne (fun q => hb (by rw [q]; exact h))]; exact e
theorem Kp.mono {ex ex' : List Addr} {H H' : Hp} (a : Kp ex H H') (h : ∀ b ∈ ex, b ∈ ex') : Kp ex' H H' := fun b o hb e => a b o (fun z => hb (h b z)) e
/-! ### the law's draws -/
/-- the draw's dict, its list of great numbers, its list of all -/
structure Dr where
  d : Addr
  l : Addr
  it : Addr
abbrev Dr.ex (D : Dr) : List Addr := [D.d, D.l]
abbrev Dr.all (D : Dr) : List Addr := [D.d, D.l, D.it]
theorem Dr.sub {D : Dr} {p : Addr} (h : p ∉ D.all) : p ∉ D.ex := fun z => h (by
  rcases List.mem_cons.mp z with z | z
  · rw [z]; exact List.mem_cons_self
  · rw [List.mem_singleton.mp z]; exact List.mem_cons_of_mem _ List.mem_cons_self)
abbrev kLarge : Key := Sum.inr "large"
abbrev kItems : Key := Sum.inr "items"
abbrev kLeft : Key := Sum.inr "left"
abbrev kTurn : Key := Sum.inr "turn"
def drV (D : Dr) (left turn : Int) : List (Key × V) := [(kLarge, .ref D.l), (kItems, .ref D.it), (kLeft, .int left), (kTurn, .int turn)]
/-- n more draws are allowed -/
structure DrAt (D : Dr) (n : Nat) (H : Hp) : Prop where
  ne : D.it ≠ D.l
  at_ : ∃ (large items : List Int) (left turn : Int), H D.d = some (.dK (drV D left turn)) ∧ H D.l = some (.lst (large.map V.int)) ∧ H D.it = some (.lst (items.map V.int)) ∧
    (0 ≤ left ∧ 0 ≤ turn ∧ turn + n ≤ 1000000000) ∧ (∀ x ∈ large, 0 ≤ x) ∧ ∀ x ∈ items, 0 ≤ x
theorem DrAt.less {D : Dr} {n m : Nat} {H : Hp} (h : DrAt D n H) (hm : m ≤ n) : DrAt D m H := by
  obtain ⟨h0, large, items, left, turn, h1, h2, h3, ⟨h4, h5, h6⟩, h7, h8⟩ := h
  exact ⟨h0, large, items, left, turn, h1, h2, h3, ⟨h4, h5, by omega⟩, h7, h8⟩
theorem DrAt.keep {D : Dr} {n : Nat} {H H' : Hp} (h : DrAt D n H) (k : Kp [] H H') : DrAt D n H' := by
  obtain ⟨h0, large, items, left, turn, h1, h2, h3, h4⟩ := h
  exact ⟨h0, large, items, left, turn, k _ _ (by simp) h1, k _ _ (by simp) h2, k _ _ (by simp) h3, h4⟩
theorem DrAt.upd {D : Dr} {n : Nat} {H : Hp} {p : Addr} {o : HO} (h : DrAt D n H) (hp : p ∉ D.all) : DrAt D n (upd H p o) := by
  obtain ⟨h0, large, items, left, turn, h1, h2, h3, h4⟩ := h
  have n1 : D.d ≠ p := fun z => hp (by rw [← z]; exact List.mem_cons_self)
  have n2 : D.l ≠ p := fun z => hp (by rw [← z]; exact List.mem_cons_of_mem _ List.mem_cons_self)
  have n3 : D.it ≠ p := fun z => hp (by rw [← z]; exact List.mem_cons_of_mem _ (List.mem_cons_of_mem _ List.mem_cons_self))
  exact ⟨h0, large, items, left, turn, by rw [upd_ne n1]; exact h1, by rw [upd_ne n2]; exact h2, by rw [upd_ne n3]; exact h3, h4⟩
theorem DrAt.fresh {D : Dr} {n : Nat} {H : Hp} (h : DrAt D n H) {p : Addr} (hp : H p = none) : p ∉ D.all := by
  obtain ⟨_, large, items, left, turn, h1, h2, h3, _⟩ := h
  intro z
  rcases List.mem_cons.mp z with z | z
  · rw [z, h1] at hp; cases hp
  · rcases List.mem_cons.mp z with z | z
    · rw [z, h2] at hp; cases hp
    · rw [List.mem_singleton.mp z, h3] at hp; cases hp
end NV
/-! D1 -/
set_option Elab.async false
set_option linter.all false
set_option maxRecDepth 100000
set_option maxHeartbeats 400000
namespace NV
open PySem PySem.Spec PyProof.Rows L2
theorem ne_lk : ¬ (kLarge = kItems) ∧ ¬ (kLarge = kLeft) ∧ ¬ (kLarge = kTurn) ∧ ¬ (kItems = kLeft) ∧ ¬ (kItems = kTurn) ∧ ¬ (kLeft = kTurn) := by decide +kernel
theorem dr_large {D : Dr} {l t : Int} : valV (drV D l t) kLarge = some (.ref D.l) := valV_pos rfl
theorem dr_items {D : Dr} {l t : Int} : valV (drV D l t) kItems = some (.ref D.it) := (valV_neg ne_lk.1).trans (valV_pos rfl)
theorem dr_left {D : Dr} {l t : Int} : valV (drV D l t) kLeft = some (.int l) := (valV_neg ne_lk.2.1).trans ((valV_neg ne_lk.2.2.2.1).trans (valV_pos rfl))
theorem dr_turn {D : Dr} {l t : Int} : valV (drV D l t) kTurn = some (.int t) := (valV_neg ne_lk.2.2.1).trans ((valV_neg ne_lk.2.2.2.2.1).trans ((valV_neg ne_lk.2.2.2.2.2).trans (valV_pos rfl)))
theorem dr_putLeft {D : Dr} {l t z : Int} : putK (drV D l t) kLeft (.int z) = drV D z t := by
  obtain ⟨h1, h2, h3, h4, h5, h6⟩ := ne_lk
  unfold putK drV
  rw [if_pos (by simp [h2, h4])]
  simp [h2, h4, Ne.symm h6]
theorem dr_putTurn {D : Dr} {l t z : Int} : putK (drV D l t) kTurn (.int z) = drV D l z := by
  obtain ⟨h1, h2, h3, h4, h5, h6⟩ := ne_lk
  unfold putK drV
  rw [if_pos (by simp [h3, h5, h6])]
  simp [h3, h5, h6]
theorem DrAt.nd {D : Dr} {n : Nat} {H : Hp} (h : DrAt D n H) : D.d ≠ D.l ∧ D.d ≠ D.it := by
  obtain ⟨h0, large, items, left, turn, h1, h2, h3, h4⟩ := h
  exact ⟨ne_of h1 h2 (by intro z; cases z), ne_of h1 h3 (by intro z; cases z)⟩

theorem fmod_in {i j : Int} (h : 0 < j) : 0 ≤ i.fmod j ∧ i.fmod j < j := by
  rw [Int.fmod_eq_emod_of_nonneg i (Int.le_of_lt h)]
  exact ⟨Int.emod_nonneg i (by omega), Int.emod_lt_of_pos i h⟩
theorem fdiv_in {i j : Int} (h0 : 0 ≤ i) (h : 0 < j) : 0 ≤ i.fdiv j ∧ i.fdiv j ≤ i := by
  rw [Int.fdiv_eq_ediv_of_nonneg i (Int.le_of_lt h)]
  exact ⟨Int.ediv_nonneg h0 (Int.le_of_lt h), Int.ediv_le_self j h0⟩

abbrev sLawMixed : Stmt := topS 48
theorem scLawMixed : FnScope ["draw", "number", "prime", "part", "item"] ["draw"] (defScope sLawMixed) := ⟨rfl, rfl, rfl, by decide +kernel, rfl, by decide +kernel, by decide +kernel⟩
def spMixed : Sp := fun vs H Q _ => ∃ (D : Dr) (n : Nat), vs = [.ref D.d] ∧ DrAt D (n + 1) H ∧ ∀ z H', 0 ≤ z → Kp [D.d] H H' → DrAt D n H' → Q (.int z) H'
section
variable {P : Program} {w : World} {K : PySem.W.Frag} {mg : Str → Option Value} {base : Heap}
theorem ok_mixed (D : Fn K mg "_law_mixed" sLawMixed ["draw"]) : FnOk P w K mg base CX0 1 D.f D.fd ["draw"] spMixed := by
  refine D.F.ok scLawMixed (fun vs H Q E h => ?_) (fun cdv A outer s H vs Q E hr h => ?_)
  · obtain ⟨D, n, rfl, _⟩ := h
    rfl
  obtain ⟨D, n, rfl, hD, q⟩ := h
  have hu := hu_of hr
  obtain ⟨nd1, nd2⟩ := hD.nd
  obtain ⟨ne, large, items, left, turn, h1, h2, h3, ⟨h4, h5, h6⟩, h7, h8⟩ := hD
  refine ⟨_, pss_cons (ps_dput hu (pv 0) pe_str (pe_op op_add (pe_dget hu (pv 0) pe_str (fun _ _ => rfl)) pe_int) rfl)
      (pss_cons (ps_set (i := 1) scLawMixed.nd rfl (.inl rfl) pe_int)
      (pss_cons (ps_for PassesOwn.never rfl (pi_list (pe_lst (pa_cons pe_int (pa_cons pe_int (pa_cons pe_int (pa_cons pe_int pa_nil)))))) (pg_name (i := 2) scLawMixed.nd rfl (.inl rfl))
      (pss_cons (ps_set (i := 3) scLawMixed.nd rfl (.inl rfl) (pe_op op_add (pe_op op_mul pe_int (pe_dget hu (pv 0) pe_str (fun _ _ => rfl))) (pe_op op_fdivN (pv 2) pe_int)))
      (pss_cons (ps_for PassesOwn.never rfl (pi_list (pe_dget hu (pv 0) pe_str (fun _ _ => rfl))) (pg_name (i := 4) scLawMixed.nd rfl (.inl rfl))
      (pss_one (ps_set (i := 3) scLawMixed.nd rfl (.inl rfl) (pe_op op_modN (pe_op op_add (pe_op op_mul (pv 3) pe_int) (pv 4)) (pv 2)))))
      (pss_one (ps_set (i := 1) scLawMixed.nd rfl (.inl rfl) (pe_op op_add (pe_op op_mul (pv 1) pe_int) (pe_op op_modN (pe_op op_pow (pv 3) pe_int) (pv 2))))))))
      (pss_one (ps_ret (pv 1))))), ?_⟩
  -- draw['turn'] = draw['turn'] + 1
  refine ⟨_, rfl, D.d, .int turn, rfl, dr_turn ▸ DGet.k (k := kTurn) h1, turn, 1, rfl, rfl, _, rfl, D.d, _, rfl, DPut.k (k := kTurn) h1 (by show 4 < sizeLine; decide), ?_⟩
  rw [dr_putTurn]
  have g1 : Kp [D.d] H (upd H D.d (.dK (drV D left (turn + 1)))) := Kp.put (by simp)
  have d1 : DrAt D n (upd H D.d (.dK (drV D left (turn + 1)))) := ⟨ne, large, items, left, turn + 1, upd_same, by rw [upd_ne (Ne.symm nd1)]; exact h2, by rw [upd_ne (Ne.symm nd2)]; exact h3, ⟨h4, by omega, by omega⟩, h7, h8⟩
  generalize upd H D.d (.dK (drV D left (turn + 1))) = H1 at g1 d1
  -- number = 0; the four primes
  refine ⟨by show 4 ≤ sizeLine; decide, fun p hp => ?_⟩
  have g2 : Kp [D.d] H (upd H1 p (.lst [V.int 2147483629, V.int 2147483587, V.int 2147483579, V.int 2147483563])) := g1.trans (Kp.laid hp)
  have d2 : DrAt D n (upd H1 p (.lst [V.int 2147483629, V.int 2147483587, V.int 2147483579, V.int 2147483563])) := d1.keep (Kp.laid hp)
  have e2 : upd H1 p (.lst [V.int 2147483629, V.int 2147483587, V.int 2147483579, V.int 2147483563]) p = some (.lst [V.int 2147483629, V.int 2147483587, V.int 2147483579, V.int 2147483563]) := upd_same
  generalize upd H1 p (.lst [V.int 2147483629, V.int 2147483587, V.int 2147483579, V.int 2147483563]) = H2 at g2 d2 e2 ⊢
  obtain ⟨_, large', items', left', turn', k1, k2, k3, ⟨k4, k5, k6⟩, k7, k8⟩ := id d2
  refine ⟨p, rfl, ⟨_, SqL.of e2⟩, for_list (K := K) (a := p) (xs := [V.int 2147483629, V.int 2147483587, V.int 2147483579, V.int 2147483563]) (fun i σ H' => ∃ (num : Int) (v2 v3 v4 : Option V), σ = [some (.ref D.d), some (.int num), v2, v3, v4] ∧ 0 ≤ num ∧ H' = H2)
    ⟨0, none, none, none, rfl, Int.le_refl 0, rfl⟩ (fun i σ H' _ ⟨_, _, _, _, _, _, e⟩ => by rw [e]; exact SqL.of e2) ?_ ?_⟩
  · rintro i y σ H' hi ⟨num, v2, v3, v4, rfl, hn, rfl⟩
    obtain ⟨pr, rfl, hp0, hp1⟩ : ∃ pr : Int, y = .int pr ∧ 1000 < pr ∧ pr < 2147483648 := by
      match i, hi with
      | 0, h => exact ⟨_, (Option.some.inj h).symm, by decide, by decide⟩
      | 1, h => exact ⟨_, (Option.some.inj h).symm, by decide, by decide⟩
      | 2, h => exact ⟨_, (Option.some.inj h).symm, by decide, by decide⟩
      | 3, h => exact ⟨_, (Option.some.inj h).symm, by decide, by decide⟩
      | j + 4, h => simp at h
    refine ⟨_, rfl, D.d, .int turn', rfl, dr_turn ▸ DGet.k (k := kTurn) k1, 92821, turn', rfl, rfl, .inl (by decide), _, rfl, pr, 13, rfl, rfl, ⟨by decide, by decide⟩, _, _, rfl, rfl, ?_⟩
    -- for item in draw['items']
    refine ⟨_, rfl, D.d, _, rfl, dr_items ▸ DGet.k (k := kItems) k1, D.it, rfl, ⟨_, SqL.of k3⟩, for_list (K := K) (a := D.it) (xs := items'.map V.int) (fun i σ H2' => ∃ (part : Int) (v4 : Option V), σ = [some (.ref D.d), some (.int num), some (.int pr), some (.int part), v4] ∧ 0 ≤ part ∧ part < 18446744073709551616 ∧ H2' = H')
      ⟨_, v4, rfl, ?_, ?_, rfl⟩ (fun i σ H2' _ ⟨_, _, _, _, _, e⟩ => by rw [e]; exact SqL.of k3) ?_ ?_⟩
    · have := (fdiv_in (i := pr) (j := 13) (by omega) (by decide)).1
      omega
    · have := (fdiv_in (i := pr) (j := 13) (by omega) (by decide)).2
      omega
    · rintro j y σ H2' hj ⟨part, v4', rfl, hp2, hp3, rfl⟩
      obtain ⟨it, rfl⟩ : ∃ it : Int, y = .int it := by
        rw [List.getElem?_map] at hj
        cases e : items'[j]? with
        | none => rw [e] at hj; cases hj
        | some z => rw [e] at hj; exact ⟨z, (Option.some.inj hj).symm⟩
      obtain ⟨m1, m2⟩ := fmod_in (i := part * 48271 + it) (j := pr) (by omega)
      refine ⟨_, rfl, part, 48271, rfl, rfl, .inr (by decide), _, rfl, _, it, rfl, rfl, _, rfl, _, pr, rfl, rfl, (by omega), _, some (.int it), rfl, m1, by omega, rfl⟩
    · rintro σ H2' ⟨part, v4', rfl, hp2, hp3, rfl⟩
      obtain ⟨m1, m2⟩ := fmod_in (i := part ^ (5 : Int).toNat) (j := pr) (by omega)
      refine ⟨_, rfl, num, 2147483647, rfl, rfl, .inr (by decide), _, rfl, part, 5, rfl, rfl, ⟨by decide, by decide, by omega⟩, _, rfl, _, pr, rfl, rfl, (by omega), _, _, rfl, rfl, _, _, _, _, rfl, ?_, rfl⟩
      have : 0 ≤ num * 2147483647 := Int.mul_nonneg hn (by decide)
      omega
  · rintro σ H' ⟨num, v2, v3, v4, rfl, hn, rfl⟩
    exact ⟨_, rfl, q num H' hn g2 d2⟩
end
end NV
/-! D2 -/
set_option Elab.async false
set_option linter.all false
set_option maxRecDepth 100000
set_option maxHeartbeats 400000
namespace NV
open PySem PySem.Spec PyProof.Rows L2
open C8 (pss_cut)
theorem dp_ints {K : PySem.W.Frag} {H : Hp} : ∀ ns : List Int, DpAll K H (ns.map V.int) (ns.map PyData.int)
  | [] => .nil
  | n :: r => .cons (.int n) (dp_ints r)
theorem ints_lay : ∀ ns : List Int, PyData.canLayAll0 (ns.map PyData.int) = true
  | [] => rfl
  | n :: r => ints_lay r
theorem ints_depth : ∀ ns : List Int, PyData.depthAll (ns.map PyData.int) = 0
  | [] => rfl
  | n :: r => by show max 0 (PyData.depthAll (r.map PyData.int)) = 0; rw [ints_depth r]; rfl
theorem ints_shaped (ns : List Int) : SeqAt.shaped (.list (ns.map .int)) = true := by
  unfold SeqAt.shaped
  rw [show PyData.canLay0 (.list (ns.map .int)) = true from ints_lay ns, show PyData.depth (.list (ns.map .int)) = 0 + 1 from congrArg (· + 1) (ints_depth ns)]
  rfl
theorem nil_shaped : SeqAt.shaped (.list []) = true := rfl
theorem eqv_nil : ∀ ds : List PyData, PyData.eqv (.list ds) (.list []) = ds.isEmpty
  | [] => rfl
  | _ :: _ => rfl

theorem dg_large {D : Dr} {l t : Int} {H : Hp} (h : H D.d = some (.dK (drV D l t))) : DGet H D.d (.str "large") (some (.ref D.l)) := dr_large ▸ DGet.k (k := kLarge) h
theorem sq_at {i : Int} {n : Nat} (h0 : 0 ≤ i) (h : i < n) : seqIndex? i n = some i.toNat := by
  unfold seqIndex?
  have e : (if i < 0 then i + (n : Int) else i) = i := if_neg (by omega)
  simp only [e]
  rw [if_pos (by simp [h0, h])]
abbrev sLawTake : Stmt := topS 49
theorem scLawTake : FnScope ["draw", "size", "digit"] ["draw", "size"] (defScope sLawTake) := ⟨rfl, rfl, rfl, by decide +kernel, rfl, by decide +kernel, by decide +kernel⟩
def spTake : Sp := fun vs H Q _ => ∃ (D : Dr) (n : Nat) (size : Int), vs = [.ref D.d, .int size] ∧ 0 < size ∧ size < 1073741824 ∧ DrAt D (n + 1) H ∧ ∀ i H', 0 ≤ i → i < size → Kp D.ex H H' → DrAt D n H' → Q (.int i) H'
section
variable {P : Program} {w : World} {K : PySem.W.Frag} {mg : Str → Option Value} {base : Heap}
theorem ok_take (D : Fn K mg "_law_take" sLawTake ["draw", "size"]) (M : Fn K mg "_law_mixed" sLawMixed ["draw"]) : FnOk P w K mg base CX0 2 D.f D.fd ["draw", "size"] spTake := by
  have GM : FnOk P w K mg base CX0 1 M.f M.fd ["draw"] spMixed := ok_mixed M
  refine D.F.ok scLawTake (fun vs H Q E h => ?_) (fun cdv A outer s H vs Q E hr h => ?_)
  · obtain ⟨D, n, size, rfl, _⟩ := h
    rfl
  obtain ⟨D, n, size, rfl, z0, z1, hD, q⟩ := h
  have hu := hu_of hr
  refine ⟨_, pss_cut (ps_if (pt_cmpR op_eq (pe_dget hu (pv 0) pe_str (fun _ _ => rfl)) pe_int (nomark _))
      (pss_one (ps_dput hu (pv 0) pe_str (pe_ifExp (pt_cmpR (op_neD hr.units) (pe_dget hu (pv 0) pe_str (fun _ _ => rfl)) (pe_lst pa_nil) (nomark _)) (pe_bm PySem.F.plainAttrs_list PySem.F.slot_list_pop PySem.F.type_list_pop mt_popAt (pe_dget hu (pv 0) pe_str (fun _ _ => rfl)) (pa_cons pe_int pa_nil)) (pe_fn M GM hr (pa_cons (pv 0) pa_nil))) rfl))
      pss_nil)
      (pss_cons (ps_set (i := 2) scLawTake.nd rfl (.inl rfl) (pe_op op_modN (pe_dget hu (pv 0) pe_str (fun _ _ => rfl)) (pv 1)))
      (pss_cons (ps_dput hu (pv 0) pe_str (pe_op op_fdivN (pe_dget hu (pv 0) pe_str (fun _ _ => rfl)) (pv 1)) rfl)
      (pss_one (ps_ret (pv 2))))), ?_⟩
  obtain ⟨nd1, nd2⟩ := hD.nd
  have hd' : D.d ∈ D.ex := List.mem_cons_self
  have hl' : D.l ∈ D.ex := List.mem_cons_of_mem _ List.mem_cons_self
  refine ⟨fun σ H1 => σ = [some (.ref D.d), some (.int size), none] ∧ Kp D.ex H H1 ∧ DrAt D n H1, ?_, ?_⟩
  · have hD' := id hD
    obtain ⟨ne, large, items, left, turn, h1, h2, h3, ⟨h4, h5, h6⟩, h7, h8⟩ := hD'
    refine ⟨_, rfl, D.d, .int left, rfl, dr_left ▸ DGet.k (k := kLeft) h1, rfl, _, rfl, ite2 (fun c => ?_) (fun c => ?_)⟩
    · -- draw['large'] != []
      refine ⟨_, rfl, D.d, _, rfl, dr_large ▸ DGet.k (k := kLarge) h1, Nat.zero_le _, fun p hp => ?_⟩
      have k1 : Kp [] H (upd H p (.lst [])) := Kp.laid hp
      have e1 : upd H p (.lst []) p = some (.lst []) := upd_same
      have hD1 := hD.keep k1
      generalize upd H p (.lst []) = H1 at k1 e1 hD1 ⊢
      have g1 : Kp D.ex H H1 := k1.mono (by simp)
      refine ⟨_, _, .lst (SqL.of (k1 _ _ (by simp) h2)) (dp_ints large), .lst (SqL.of e1) .nil, ints_shaped large, nil_shaped, _, rfl, ite2 (fun c2 => ?_) (fun c2 => ?_)⟩
      · -- pop(0)
        have hne : large ≠ [] := fun z => by subst z; simp [PyData.eqv, PyData.eqvAll] at c2
        obtain ⟨x, r, rfl⟩ : ∃ x r, large = x :: r := by
          cases large with
          | nil => exact absurd rfl hne
          | cons x r => exact ⟨x, r, rfl⟩
        have h1' := k1 _ _ (by simp) h1
        have h2' := k1 _ _ (by simp) h2
        have h3' := k1 _ _ (by simp) h3
        refine ⟨_, rfl, D.d, _, rfl, dg_large h1', .inl ⟨rfl, _, SqL.of h2'⟩, D.l, _, 0, 0, .int x, rfl, rfl, h2', by decide, by decide, sq_at (Int.le_refl 0) (by simp), rfl, ?_⟩
        have h1'' : upd H1 D.l (.lst (((x :: r).map V.int).eraseIdx 0)) D.d = some (.dK (drV D left turn)) := by rw [upd_ne nd1]; exact h1'
        refine ⟨_, rfl, D.d, _, rfl, DPut.k (k := kLeft) h1'' (by show 4 < sizeLine; decide), ?_⟩
        rw [dr_putLeft]
        refine ⟨rfl, g1.trans ((Kp.put hl').trans (Kp.put hd')), ne, r, items, x, turn, upd_same, ?_, ?_, ⟨h7 x List.mem_cons_self, h5, by omega⟩, fun y hy => h7 y (List.mem_cons_of_mem _ hy), h8⟩
        · rw [upd_ne (Ne.symm nd1), upd_same]
          rfl
        · rw [upd_ne (Ne.symm nd2), upd_ne ne]
          exact h3'
      · -- a mixed number
        refine ⟨_, rfl, D, n, rfl, hD1, fun z H2 hz k2 hD2 => ?_⟩
        have hD2' := id hD2
        obtain ⟨_, large2, items2, left2, turn2, j1, j2, j3, ⟨j4, j5, j6⟩, j7, j8⟩ := hD2'
        refine ⟨_, rfl, D.d, _, rfl, DPut.k (k := kLeft) j1 (by show 4 < sizeLine; decide), ?_⟩
        rw [dr_putLeft]
        refine ⟨rfl, g1.trans ((k2.mono (by simp)).trans (Kp.put hd')), ne, large2, items2, z, turn2, upd_same, by rw [upd_ne (Ne.symm nd1)]; exact j2, by rw [upd_ne (Ne.symm nd2)]; exact j3, ⟨hz, j5, by omega⟩, j7, j8⟩
    · exact ⟨rfl, Kp.refl, hD.less (Nat.le_succ _)⟩
  · rintro σ H1 ⟨rfl, g1, hD1⟩
    have hD' := id hD1
    obtain ⟨ne, large, items, left, turn, h1, h2, h3, ⟨h4, h5, h6⟩, h7, h8⟩ := hD'
    obtain ⟨m1, m2⟩ := fmod_in (i := left) (j := size) z0
    obtain ⟨f1, f2⟩ := fdiv_in (i := left) (j := size) h4 z0
    refine ⟨_, rfl, D.d, _, rfl, dr_left ▸ DGet.k (k := kLeft) h1, _, rfl, left, size, rfl, rfl, (by omega), ?_⟩
    refine ⟨_, rfl, D.d, _, rfl, dr_left ▸ DGet.k (k := kLeft) h1, _, rfl, left, size, rfl, rfl, ⟨(by omega), (by omega)⟩, _, rfl, D.d, _, rfl, DPut.k (k := kLeft) h1 (by show 4 < sizeLine; decide), ?_⟩
    rw [dr_putLeft]
    exact ⟨_, rfl, q _ _ m1 m2 (g1.trans (Kp.put hd')) ⟨ne, large, items, _, turn, upd_same, by rw [upd_ne (Ne.symm nd1)]; exact h2, by rw [upd_ne (Ne.symm nd2)]; exact h3, ⟨f1, h5, h6⟩, h7, h8⟩⟩
end
end NV
/-! D3 -/
set_option Elab.async false
set_option linter.all false
set_option maxRecDepth 100000
set_option maxHeartbeats 400000
namespace NV
open PySem PySem.Spec PyProof.Rows L2
open C8 (pss_cut)
theorem Kp.seqL {K : PySem.W.Frag} {ex : List Addr} {H H' : Hp} {a : Addr} {xs : List V} (e : Kp ex H H') (ha : a ∉ ex) (h : SqL K H a xs) : SqL K H' a xs := by
  rcases h with (h | ⟨o, h⟩) | h
  · exact .inl (.inl (e _ _ ha h))
  · exact .inl (.inr ⟨o, e _ _ ha h⟩)
  · exact .inr h
theorem Kp.seqT {K : PySem.W.Frag} {ex : List Addr} {H H' : Hp} {a : Addr} {xs : List V} (e : Kp ex H H') (ha : a ∉ ex) (h : SqT K H a xs) : SqT K H' a xs := by
  rcases h with (h | ⟨o, h⟩) | h
  · exact .inl (.inl (e _ _ ha h))
  · exact .inl (.inr ⟨o, e _ _ ha h⟩)
  · exact .inr h
abbrev sLawPick : Stmt := topS 50
theorem scLawPick : FnScope ["draw", "some"] ["draw", "some"] (defScope sLawPick) := ⟨rfl, rfl, rfl, by decide +kernel, rfl, by decide +kernel, by decide +kernel⟩
def spPick (K : PySem.W.Frag) : Sp := fun vs H Q _ => ∃ (D : Dr) (n : Nat) (a : Addr) (xs : List V), vs = [.ref D.d, .ref a] ∧ SqL K H a xs ∧ 0 < xs.length ∧ xs.length < 1073741824 ∧ a ∉ D.ex ∧ DrAt D (n + 1) H ∧
  ∀ (i : Nat) (v : V) (H' : Hp), xs[i]? = some v → Kp D.ex H H' → DrAt D n H' → Q v H'
section
variable {P : Program} {w : World} {K : PySem.W.Frag} {mg : Str → Option Value} {base : Heap}
theorem ok_pick (D : Fn K mg "_law_pick" sLawPick ["draw", "some"]) (T : Fn K mg "_law_take" sLawTake ["draw", "size"]) (b_len : mg "len" = none) (G : FnOk P w K mg base CX0 2 T.f T.fd ["draw", "size"] spTake) : FnOk P w K mg base CX0 3 D.f D.fd ["draw", "some"] (spPick K) := by
  refine D.F.ok scLawPick (fun vs H Q E h => ?_) (fun cdv A outer s H vs Q E hr h => ?_)
  · obtain ⟨D, n, a, xs, rfl, _⟩ := h
    rfl
  obtain ⟨D, n, a, xs, rfl, hS, l0, l1, ha, hD, q⟩ := h
  refine ⟨_, pss_one (ps_ret (pe_ix ix_list (pv 1) (pe_fn T G hr (pa_cons (pv 0) (pa_cons (pe_callB call_len_seq (by rfl) b_len (by decide +kernel) (pa_cons (pv 1) pa_nil)) pa_nil))) (fun _ _ => rfl))), ?_⟩
  refine ⟨_, rfl, _, rfl, _, rfl, a, xs, rfl, .inl hS, D, n, _, rfl, (by omega), (by omega), hD, fun i H' h0 h1 k hD' => ?_⟩
  have hlt : i.toNat < xs.length := by omega
  have ei : ((i.toNat : Nat) : Int) = i := by omega
  have g : atI xs ((i.toNat : Nat) : Int) = some xs[i.toNat] := atI_nat (List.getElem?_eq_getElem hlt)
  rw [ei] at g
  exact ⟨a, xs, i, xs[i.toNat], rfl, rfl, k.seqL ha hS, g, q i.toNat _ H' (List.getElem?_eq_getElem hlt) k hD'⟩
end
end NV
/-! Ord -/
set_option linter.all false
/-! texts in order -/
namespace NV
open PySem PySem.Spec PyProof.Rows L2
def ltS (a b : Str) : Prop := a.cps.toList < b.cps.toList
theorem ltS_iff {a b : Str} : ltCps a.cps.toList b.cps.toList = true ↔ ltS a b := by rw [ltCps_eq, decide_eq_true_eq]; exact Iff.rfl
theorem ltS_irrefl (a : Str) : ¬ ltS a a := List.lt_irrefl _
theorem ltS_trans {a b c : Str} (h : ltS a b) (h' : ltS b c) : ltS a c := List.lt_trans h h'
theorem ltS_total {a b : Str} (h : ¬ ltS a b) (h' : ¬ ltS b a) : a = b := ext_toList (List.le_antisymm (List.not_lt.mp h') (List.not_lt.mp h))
instance (a b : Str) : Decidable (ltS a b) := inferInstanceAs (Decidable (a.cps.toList < b.cps.toList))
abbrev Asc (l : List Str) : Prop := l.Pairwise ltS
theorem rising_pw : ∀ (l : List Str) (p : Str), risingS p l = true → (∀ x ∈ l, ¬ ltS x p) ∧ l.Pairwise (fun a b => ¬ ltS b a)
  | [], _, _ => ⟨fun x hx => by simp at hx, .nil⟩
  | y :: r, p, h => by
    have h' : (!ltCps y.cps.toList p.cps.toList && risingS y r) = true := h
    rw [Bool.and_eq_true, Bool.not_eq_true'] at h'
    have h0 : ¬ ltS y p := fun q => by rw [ltS_iff.mpr q] at h'; exact Bool.noConfusion h'.1
    obtain ⟨h1, h2⟩ := rising_pw r y h'.2
    refine ⟨fun x hx => ?_, List.pairwise_cons.mpr ⟨h1, h2⟩⟩
    rcases List.mem_cons.mp hx with e | hx
    · rw [e]; exact h0
    · intro q
      have q1 := h1 x hx
      by_cases q2 : ltS p x
      · exact ltS_irrefl _ (ltS_trans q q2)
      · have : ltS y x ∨ y = x := by
          by_cases z : ltS y x
          · exact .inl z
          · exact .inr (ltS_total z q1)
        rcases this with z | z
        · exact h0 (ltS_trans z q)
        · rw [← z] at q; exact h0 q
theorem sorted_asc {l : List Str} (h : sortedS l = true) (d : l.Nodup) : Asc l := by
  have pw : l.Pairwise (fun a b => ¬ ltS b a) := by
    cases l with
    | nil => exact .nil
    | cons x r =>
      obtain ⟨h1, h2⟩ := rising_pw r x h
      exact List.pairwise_cons.mpr ⟨h1, h2⟩
  exact (pw.and d).imp fun {a b} ⟨h1, h2⟩ => Classical.byContradiction fun h3 => h2 (ltS_total h3 h1)
theorem Asc.nodup {l : List Str} (h : Asc l) : l.Nodup := h.imp fun {a b} q e => by rw [e] at q; exact ltS_irrefl _ q
/-- two rising lists of the same members are one -/
theorem asc_same : ∀ {l m : List Str}, Asc l → Asc m → (∀ x, x ∈ l ↔ x ∈ m) → l = m
  | [], [], _, _, _ => rfl
  | [], y :: r, _, _, h => absurd ((h y).mpr List.mem_cons_self) (by simp)
  | x :: l, [], _, _, h => absurd ((h x).mp List.mem_cons_self) (by simp)
  | x :: l, y :: m, hl, hm, h => by
    obtain ⟨l1, l2⟩ := List.pairwise_cons.mp hl
    obtain ⟨m1, m2⟩ := List.pairwise_cons.mp hm
    have e : x = y := by
      rcases List.mem_cons.mp ((h x).mp List.mem_cons_self) with q | q
      · exact q
      · rcases List.mem_cons.mp ((h y).mpr List.mem_cons_self) with z | z
        · exact z.symm
        · exact absurd (ltS_trans (l1 y z) (m1 x q)) (ltS_irrefl _)
    subst e
    rw [asc_same l2 m2 fun z => ⟨fun q => ?_, fun q => ?_⟩]
    · rcases List.mem_cons.mp ((h z).mp (List.mem_cons_of_mem _ q)) with w | w
      · rw [w] at q; exact absurd (l1 x q) (ltS_irrefl _)
      · exact w
    · rcases List.mem_cons.mp ((h z).mpr (List.mem_cons_of_mem _ q)) with w | w
      · rw [w] at q; exact absurd (m1 x q) (ltS_irrefl _)
      · exact w
end NV
/-! D4 -/
set_option Elab.async false
set_option linter.all false
set_option maxRecDepth 100000
set_option maxHeartbeats 400000
namespace NV
open PySem PySem.Spec PyProof.Rows L2
open C8 (pss_cut)
theorem Kp.drop {p : Addr} {ex : List Addr} {H H' : Hp} (k : Kp (p :: ex) H H') (hp : H p = none) : Kp ex H H' := fun b o hb e => k b o (fun z => by
  rcases List.mem_cons.mp z with z | z
  · rw [z, hp] at e; cases e
  · exact hb z) e
theorem wipe_again {σ : L2.St} {i : Nat} {v : Option V} : wipe ((wipe σ [i]).set i v) [i] = wipe σ [i] := by
  show ((σ.set i none).set i v).set i none = σ.set i none
  rw [List.set_set, List.set_set]
theorem erase_str : ∀ (l : List Str) (j : Nat), (l.map V.str).eraseIdx j = (l.eraseIdx j).map V.str
  | [], _ => rfl
  | _ :: _, 0 => rfl
  | _ :: r, j + 1 => congrArg (_ :: ·) (erase_str r j)
/-- [pool.pop(take(..)) for k in range(cnt)]: some of the pool's texts, each once -/
theorem pops {Dr : Dr} {n : Nat} {te : TE} {i : Nat} {σ : L2.St} {pl C : Addr} {zs : List Str} {cnt : Nat} {H0 : Hp} {Qd : Hp → Prop} (hc : cnt ≤ zs.length) (hz : zs.length < 1000) (hpl : H0 pl = some (.lst (zs.map V.str))) (hnpl : pl ∉ Dr.all) (hD : DrAt Dr (n + cnt) H0) (nC : H0 C = none)
    (hte : ∀ (j : Nat) (H2 : Hp) (rest : List Str) (m : Nat) (Q : V → Hp → Prop), H2 pl = some (.lst (rest.map V.str)) → 0 < rest.length → rest.length < 1000 → DrAt Dr (m + 1) H2 →
      (∀ (j : Nat) (y : Str) (H3 : Hp), rest[j]? = some y → H3 pl = some (.lst ((rest.eraseIdx j).map V.str)) → Kp (pl :: Dr.ex) H2 H3 → DrAt Dr m H3 → Q (.str y) H3) → te ((wipe σ [i]).set i (some (.int (0 + j)))) H2 Q)
    (hd : ∀ (H' : Hp) (got rest : List Str), got.length = cnt → (rest ++ got).Perm zs → H' C = some (.lst (got.map V.str)) → Kp (pl :: Dr.ex) H0 H' → DrAt Dr n H' → Qd H') :
    ∃ W : Nat → Nat → Hp → Prop, (∃ m, W 0 m (upd H0 C (.lst []))) ∧ ∀ j m H, W j m H →
      ((Itr 0 cnt).stop j H ∧ Qd H) ∨ ((Itr 0 cnt).go j H ∧ ∃ Nx : Hp → Prop, (∀ H', Nx H' → ∃ m', m' < m ∧ W (j + 1) m' H') ∧ ∀ x H', (Itr 0 cnt).yld j H x H' → gName i x (wipe σ [i]) H' fun σ2 H2 => wipe σ2 [i] = wipe σ [i] ∧ tYes σ2 H2 fun b H3 =>
        if b = true then te σ2 H3 fun y H4 => ∃ acc, H4 C = some (.lst acc) ∧ acc.length < sizeLine ∧ Nx (upd H4 C (.lst (acc ++ [y]))) else Nx H3) := by
  have nCp : C ≠ pl := fun e => by rw [e, hpl] at nC; cases nC
  have nCa : C ∉ Dr.all := hD.fresh nC
  have nCe : C ∉ Dr.ex := Dr.sub nCa
  refine lc_range (lo := 0) (n := cnt) (fun j H' => ∃ rest got : List Str, H' pl = some (.lst (rest.map V.str)) ∧ H' C = some (.lst (got.map V.str)) ∧ (rest ++ got).Perm zs ∧ got.length = j ∧ rest.length + j = zs.length ∧ Kp (C :: pl :: Dr.ex) H0 H' ∧ DrAt Dr (n + (cnt - j)) H') ?_ (fun j H' hj h => ?_) (fun H' h => ?_)
  · refine ⟨zs, [], by rw [upd_ne nCp.symm]; exact hpl, upd_same, by simp, rfl, rfl, Kp.put List.mem_cons_self, (hD.keep (Kp.laid nC)).less (by omega)⟩
  · obtain ⟨rest, got, h1, h2, h3, h4, h5, h6, h7⟩ := h
    refine ⟨wipe_again, ?_⟩
    change te ((wipe σ [i]).set i (some (.int (0 + (j : Int))))) H' _
    refine hte j H' rest (n + (cnt - (j + 1))) _ h1 (by omega) (by omega) (h7.less (by omega)) fun t y H3 ht e3 k3 d3 => ?_
    have hC3 : H3 C = some (.lst (got.map V.str)) := k3 _ _ (fun z => by
      rcases List.mem_cons.mp z with z | z
      · exact nCp z
      · exact nCe z) h2
    have hsl : got.length < sizeLine := small1000 (by omega)
    have ht' := (List.getElem?_eq_some_iff.mp ht).1
    refine ⟨_, hC3, by rw [List.length_map]; exact hsl, rest.eraseIdx t, got ++ [y], by rw [upd_ne nCp.symm]; exact e3, by rw [upd_same, List.map_append]; rfl, ?_, by rw [List.length_append, h4]; rfl, by rw [List.length_eraseIdx_of_lt ht']; omega, (h6.trans (k3.mono fun b hb => List.mem_cons_of_mem _ hb)).trans (Kp.put List.mem_cons_self), ?_⟩
    · refine List.Perm.trans ?_ h3
      have p1 : (y :: rest.eraseIdx t).Perm rest := erase_perm rest t y ht
      have p2 : (rest.eraseIdx t ++ (got ++ [y])).Perm ((y :: rest.eraseIdx t) ++ got) := by
        rw [← List.append_assoc]
        exact List.perm_append_singleton _ _
      exact p2.trans (p1.append_right got)
    · exact d3.upd nCa
  · obtain ⟨rest, got, h1, h2, h3, h4, h5, h6, h7⟩ := h
    exact hd H' got rest h4 h3 h2 (h6.drop nC) (h7.less (by omega))
end NV
/-! D5 -/
set_option Elab.async false
set_option linter.all false
set_option maxRecDepth 100000
set_option maxHeartbeats 400000
namespace NV
open PySem PySem.Spec PyProof.Rows L2
open C8 (pss_cut)
theorem Kp.none_before {D : Dr} {n : Nat} {H H' : Hp} {p : Addr} (k : Kp D.ex H H') (hp : H' p = none) (d : DrAt D n H') : H p = none := by
  cases e : H p with
  | none => rfl
  | some o =>
    rw [k p o (Dr.sub (d.fresh hp)) e] at hp
    cases hp
/-- the element of such a comprehension, by values -/
theorem pop_turn {Dr : Dr} {m : Nat} {pl : Addr} {rest : List Str} {H2 : Hp} {size : Int} {Q : V → Hp → Prop} (hnpl : pl ∉ Dr.all) (h : H2 pl = some (.lst (rest.map V.str))) (hD : DrAt Dr (m + 1) H2) (hs : 0 < size) (hs1 : size ≤ rest.length) (hs2 : rest.length < 1000)
    (q : ∀ (j : Nat) (y : Str) (H3 : Hp), rest[j]? = some y → H3 pl = some (.lst ((rest.eraseIdx j).map V.str)) → Kp (pl :: Dr.ex) H2 H3 → DrAt Dr m H3 → Q (.str y) H3) :
    spTake [.ref Dr.d, .int size] H2 (fun y H3 => rPopAt (.ref pl) [y] H3 Q) (fun _ _ _ => False) := by
  refine ⟨Dr, m, size, rfl, hs, by omega, hD, fun i H3 h0 h1 k d => ?_⟩
  have hlt : i.toNat < rest.length := by omega
  have h3 := k _ _ (Dr.sub hnpl) h
  have g : (rest.map V.str)[i.toNat]? = some (.str rest[i.toNat]) := by rw [List.getElem?_map, List.getElem?_eq_getElem hlt]; rfl
  refine ⟨pl, _, i, i.toNat, _, rfl, rfl, h3, by omega, by omega, sq_at h0 (by rw [List.length_map]; omega), g, ?_⟩
  rw [erase_str]
  exact q i.toNat _ _ (List.getElem?_eq_getElem hlt) upd_same ((k.mono fun b hb => List.mem_cons_of_mem _ hb).trans (Kp.put List.mem_cons_self)) (d.upd hnpl)

abbrev sLawSome : Stmt := topS 51
theorem scLawSome : FnScope ["draw", "things", "least", "most", "pool", "size", "k"] ["draw", "things", "least", "most"] (defScope sLawSome) := ⟨rfl, rfl, rfl, by decide +kernel, rfl, by decide +kernel, by decide +kernel⟩
def spSome (K : PySem.W.Frag) : Sp := fun vs H Q _ => ∃ (D : Dr) (n : Nat) (a : Addr) (zs : List Str) (least most : Nat), vs = [.ref D.d, .ref a, .int least, .int most] ∧ SqL K H a (zs.map V.str) ∧ a ∉ D.all ∧ zs.length < 64 ∧ least ≤ most ∧ most < 64 ∧ DrAt D (n + (1 + most)) H ∧
  ∀ (ys : List Str) (p : Addr) (H' : Hp), (∀ y ∈ ys, y ∈ zs) → (zs.Nodup → Asc ys) → min least zs.length ≤ ys.length → ys.length ≤ most → H p = none → H' p = some (.tup (ys.map V.str)) → Kp D.ex H H' → DrAt D n H' → Q (.ref p) H'
section
variable {P : Program} {w : World} {K : PySem.W.Frag} {mg : Str → Option Value} {base : Heap}
theorem ok_some (DLawSome : Fn K mg "_law_some" sLawSome ["draw", "things", "least", "most"]) (DLawTake : Fn K mg "_law_take" sLawTake ["draw", "size"]) (b_len : mg "len" = none) (b_list : mg "list" = none) (b_tuple : mg "tuple" = none) (b_sorted : mg "sorted" = none) (b_range : mg "range" = none) (b_min : mg "min" = none)
    (GLawTake : FnOk P w K mg base CX0 2 DLawTake.f DLawTake.fd ["draw", "size"] spTake) : FnOk P w K mg base CX0 3 DLawSome.f DLawSome.fd ["draw", "things", "least", "most"] (spSome K) := by
  refine DLawSome.F.ok scLawSome (fun vs H Q E h => ?_) (fun cdv A outer s H vs Q E hr h => ?_)
  · obtain ⟨D, n, a, zs, least, most, rfl, _⟩ := h
    rfl
  obtain ⟨D, n, a, zs, least, most, rfl, hS, ha, l64, hlm, hm64, hD, q⟩ := h
  refine ⟨_, pss_cons (ps_asg (pe_tup (pa_cons (pe_callTy (listE K) (by rfl) b_list (by decide +kernel) (pa_cons (pv 1) pa_nil)) (pa_cons (pe_op op_add (pv 2) (pe_fn DLawTake GLawTake hr (pa_cons (pv 0) (pa_cons (pe_op op_add (pe_op op_sub (pv 3) (pv 2)) pe_int) pa_nil)))) pa_nil))) (pg_tup (by rfl) (pgs_cons (pg_name (i := 4) scLawSome.nd rfl (.inr rfl)) (pgs_cons (pg_name (i := 5) scLawSome.nd rfl (.inl rfl)) pgs_nil))))
      (pss_one (ps_ret (pe_callTy call_tuple_of (by rfl) b_tuple (by decide +kernel) (pa_cons (pe_callB (sortedE K) (by rfl) b_sorted (by decide +kernel) (pa_cons (pe_lc (own := [("k", 6)]) (g := gName 6) (tt := tYes) (by rfl) scLawSome.nd (pi_range1 rfl b_range (pa_cons (pe_callB (call_min2 rfl) (by rfl) b_min (by decide +kernel) (pa_cons (pv 5) (pa_cons (pe_callB (lenE K) (by rfl) b_len (by decide +kernel) (pa_cons (pv 1) pa_nil)) pa_nil))) pa_nil)) (blkOk_by (N := ["draw", "things", "least", "most", "pool", "size", "k"]) (sc := defScope sLawSome) (by decide +kernel)) (fun _ _ _ _ _ => (pg_name (i := 6) scLawSome.nd rfl (.inl rfl))) (fun _ _ _ _ _ => pts_nil) (fun _ _ _ _ _ => (bmE K PySem.F.plainAttrs_list PySem.F.slot_list_pop PySem.F.type_list_pop mt_popAt (pv 4) (pa_cons (pe_fn DLawTake GLawTake hr (pa_cons (pv 0) (pa_cons (pe_callB (lenE K) (by rfl) b_len (by decide +kernel) (pa_cons (pv 4) pa_nil)) pa_nil))) pa_nil)))) pa_nil)) pa_nil)))), ?_⟩
  -- pool, size
  refine ⟨_, rfl, a, _, rfl, .inl hS, fun pl hpl => ?_⟩
  have hDp := hD.keep (H' := upd H pl (.lst (zs.map V.str))) (Kp.laid hpl)
  have npl := hD.fresh hpl
  have epl : upd H pl (.lst (zs.map V.str)) pl = some (.lst (zs.map V.str)) := upd_same
  have k1 : Kp [] H (upd H pl (.lst (zs.map V.str))) := Kp.laid hpl
  generalize upd H pl (.lst (zs.map V.str)) = H1 at hDp epl k1 ⊢
  refine ⟨_, rfl, _, rfl, _, rfl, _, rfl, _, _, rfl, rfl, _, _, rfl, rfl, D, n + most, _, rfl, (by omega), (by omega), hDp.less (by omega), fun i H2 i0 i1 k2 d2 => ?_⟩
  refine ⟨_, _, rfl, rfl, by show 2 ≤ sizeLine; decide, fun t ht => ?_⟩
  refine ⟨t, [.ref pl, .int (least + i)], rfl, SqT.of upd_same, rfl, _, _, rfl, _, _, rfl, rfl, ?_⟩
  have k3 : Kp [] H2 (upd H2 t (.tup [.ref pl, .int (least + i)])) := Kp.laid ht
  have d3 := d2.keep k3
  generalize upd H2 t (.tup [.ref pl, .int (least + i)]) = H3 at k3 d3 ⊢
  -- the comprehension
  have k13 : Kp D.ex H H3 := (k1.mono (by simp)).trans (k2.trans (k3.mono (by simp)))
  have epl3 := k3 _ _ (by simp) (k2 _ _ (Dr.sub npl) epl)
  have hS3 := k13.seqL (Dr.sub ha) hS
  refine ⟨_, rfl, _, rfl, a, _, rfl, .inl hS3, ?_⟩
  obtain ⟨cnt, ec, hc1, hc2, hc3⟩ : ∃ cnt : Nat, (if (((zs.map V.str).length : Nat) : Int) < (least : Int) + i then (((zs.map V.str).length : Nat) : Int) else (least : Int) + i) = (cnt : Int) ∧ cnt ≤ zs.length ∧ cnt ≤ most ∧ min least zs.length ≤ cnt := by
    rw [List.length_map]
    by_cases c : ((zs.length : Nat) : Int) < (least : Int) + i
    · rw [if_pos c]
      exact ⟨zs.length, rfl, Nat.le_refl _, by omega, by omega⟩
    · rw [if_neg c]
      exact ⟨((least : Int) + i).toNat, by omega, by omega, by omega, by omega⟩
  refine ⟨_, _, rfl, ?_⟩
  rw [ec]
  refine ⟨cnt, rfl, by omega, by omega, fun C nC => ?_⟩
  refine pops (Dr := D) (n := n) (zs := zs) (pl := pl) hc1 (by omega) epl3 npl (d3.less (by omega)) nC (fun j H4 rest m Q4 h1 h2 h3 h4 h5 => ?_) (fun H4 got rest hg hp hC k4 d4 => ?_)
  · refine ⟨_, rfl, .inl ⟨rfl, _, SqL.of h1⟩, _, rfl, _, rfl, pl, _, rfl, .inl (SqL.of h1), ?_⟩
    rw [List.length_map]
    exact pop_turn npl h1 h4 (by omega) (by omega) h3 h5
  · have hg64 : got.length < 64 := by omega
    refine ⟨C, got, rfl, SqL.of hC, hg64, fun ys p2 pm srt np2 => ?_⟩
    refine ⟨p2, ys.map V.str, rfl, .inl ⟨SqL.of upd_same, fun p3 np3 => ?_⟩⟩
    have k5 : Kp [] H4 (upd (upd H4 p2 (.lst (ys.map V.str))) p3 (.tup (ys.map V.str))) := (Kp.laid np2).trans (Kp.laid np3)
    have kk : Kp D.ex H (upd H4 p2 (.lst (ys.map V.str))) := ((k13.mono (fun b hb => List.mem_cons_of_mem _ hb) |>.trans k4).drop hpl).trans (Kp.laid np2)
    refine q ys p3 _ (fun y hy => ?_) (fun nd => ?_) ?_ ?_ (kk.none_before np3 (d4.keep (Kp.laid np2))) upd_same ?_ (d4.keep k5)
    · exact hp.mem_iff.mp (List.mem_append_right _ (pm.mem_iff.mp hy))
    · refine sorted_asc srt (pm.nodup_iff.mpr ?_)
      exact (List.nodup_append.mp (hp.nodup_iff.mpr nd)).2.1
    · rw [pm.length_eq, hg]; exact hc3
    · rw [pm.length_eq, hg]; exact hc2
    · refine Kp.trans ?_ (k5.mono (by simp))
      exact (k13.mono (fun b hb => List.mem_cons_of_mem _ hb) |>.trans k4).drop hpl
end
end NV
/-! D6 -/
set_option Elab.async false
set_option linter.all false
set_option maxRecDepth 100000
set_option maxHeartbeats 400000
namespace NV
open PySem PySem.Spec PyProof.Rows L2
open C8 (pss_cut)
def cellPool : List Str := ["a", "b", "c", "ab", "ba", "aa", "zz", "zzzz", "abcd", "q"]
theorem cellPool_nd : cellPool.Nodup := by decide +kernel
abbrev sLawCells : Stmt := topS 52
theorem scLawCells : FnScope ["draw", "many", "pool", "k"] ["draw", "many"] (defScope sLawCells) := ⟨rfl, rfl, rfl, by decide +kernel, rfl, by decide +kernel, by decide +kernel⟩
def spCells : Sp := fun vs H Q _ => ∃ (D : Dr) (n many : Nat), vs = [.ref D.d, .int many] ∧ many ≤ 10 ∧ DrAt D (n + many) H ∧
  ∀ (ys : List Str) (p : Addr) (H' : Hp), Asc ys → (∀ y ∈ ys, y ∈ cellPool) → ys.length = many → H p = none → H' p = some (.lst (ys.map V.str)) → Kp D.ex H H' → DrAt D n H' → Q (.ref p) H'
section
variable {P : Program} {w : World} {K : PySem.W.Frag} {mg : Str → Option Value} {base : Heap}
theorem ok_cells (DLawCells : Fn K mg "_law_cells" sLawCells ["draw", "many"]) (DLawTake : Fn K mg "_law_take" sLawTake ["draw", "size"]) (b_len : mg "len" = none) (b_sorted : mg "sorted" = none) (b_range : mg "range" = none)
    (GLawTake : FnOk P w K mg base CX0 2 DLawTake.f DLawTake.fd ["draw", "size"] spTake) : FnOk P w K mg base CX0 3 DLawCells.f DLawCells.fd ["draw", "many"] spCells := by
  refine DLawCells.F.ok scLawCells (fun vs H Q E h => ?_) (fun cdv A outer s H vs Q E hr h => ?_)
  · obtain ⟨D, n, many, rfl, _⟩ := h
    rfl
  obtain ⟨D, n, many, rfl, hm, hD, q⟩ := h
  refine ⟨_, pss_cons (ps_set (i := 2) scLawCells.nd rfl (.inr rfl) (pe_lst (pa_cons pe_str (pa_cons pe_str (pa_cons pe_str (pa_cons pe_str (pa_cons pe_str (pa_cons pe_str (pa_cons pe_str (pa_cons pe_str (pa_cons pe_str (pa_cons pe_str pa_nil))))))))))))
      (pss_one (ps_ret (pe_callB (sortedE K) (by rfl) b_sorted (by decide +kernel) (pa_cons (pe_lc (own := [("k", 3)]) (g := gName 3) (tt := tYes) (by rfl) scLawCells.nd (pi_range1 rfl b_range (pa_cons (pv 1) pa_nil)) (blkOk_by (N := ["draw", "many", "pool", "k"]) (sc := defScope sLawCells) (by decide +kernel)) (fun _ _ _ _ _ => (pg_name (i := 3) scLawCells.nd rfl (.inl rfl))) (fun _ _ _ _ _ => pts_nil) (fun _ _ _ _ _ => (bmE K PySem.F.plainAttrs_list PySem.F.slot_list_pop PySem.F.type_list_pop mt_popAt (pv 2) (pa_cons (pe_fn DLawTake GLawTake hr (pa_cons (pv 0) (pa_cons (pe_callB (lenE K) (by rfl) b_len (by decide +kernel) (pa_cons (pv 2) pa_nil)) pa_nil))) pa_nil)))) pa_nil)))), ?_⟩
  refine ⟨by show 10 ≤ sizeLine; decide, fun pl hpl => ?_⟩
  show _
  have hDp := hD.keep (H' := upd H pl (.lst (cellPool.map V.str))) (Kp.laid hpl)
  have npl := hD.fresh hpl
  have epl : upd H pl (.lst (cellPool.map V.str)) pl = some (.lst (cellPool.map V.str)) := upd_same
  have k1 : Kp [] H (upd H pl (.lst (cellPool.map V.str))) := Kp.laid hpl
  have eH : upd H pl (.lst [V.str "a", V.str "b", V.str "c", V.str "ab", V.str "ba", V.str "aa", V.str "zz", V.str "zzzz", V.str "abcd", V.str "q"]) = upd H pl (.lst (cellPool.map V.str)) := rfl
  rw [eH]
  generalize upd H pl (.lst (cellPool.map V.str)) = H1 at hDp epl k1 ⊢
  refine ⟨_, rfl, many, rfl, by omega, by omega, fun C nC => ?_⟩
  have hlen : cellPool.length = 10 := rfl
  refine pops (Dr := D) (n := n) (zs := cellPool) (pl := pl) (by omega) (by omega) epl npl hDp nC (fun j H4 rest m Q4 h1 h2 h3 h4 h5 => ?_) (fun H4 got rest hg hp hC k4 d4 => ?_)
  · refine ⟨_, rfl, .inl ⟨rfl, _, SqL.of h1⟩, _, rfl, _, rfl, pl, _, rfl, .inl (SqL.of h1), ?_⟩
    rw [List.length_map]
    exact pop_turn npl h1 h4 (by omega) (by omega) h3 h5
  · have hg64 : got.length < 64 := by omega
    refine ⟨C, got, rfl, SqL.of hC, hg64, fun ys p2 pm srt np2 => ?_⟩
    have kk : Kp D.ex H (upd H4 p2 (.lst (ys.map V.str))) := ((k1.mono (by simp)).trans k4 |>.drop hpl).trans (Kp.laid np2)
    refine q ys p2 _ ?_ (fun y hy => hp.mem_iff.mp (List.mem_append_right _ (pm.mem_iff.mp hy))) (by rw [pm.length_eq, hg]; rfl) ?_ upd_same kk (d4.keep (Kp.laid np2))
    · exact sorted_asc srt (pm.nodup_iff.mpr (List.nodup_append.mp (hp.nodup_iff.mpr cellPool_nd)).2.1)
    · exact ((k1.mono (by simp)).trans k4 |>.drop hpl).none_before np2 d4
end
end NV
/-! D7 -/
set_option Elab.async false
set_option linter.all false
set_option maxRecDepth 100000
set_option maxHeartbeats 400000
namespace NV
open PySem PySem.Spec PyProof.Rows L2
open C8 (pss_cut)
def isSign (digits : Bool) (c : Nat) : Bool := (97 ≤ c && c ≤ 122) || (digits && (48 ≤ c && c ≤ 57))
/-- a word of 1 to most signs -/
def wordB (most : Nat) (digits : Bool) (z : Str) : Bool := decide (1 ≤ z.cps.size) && decide (z.cps.size ≤ most) && z.cps.toList.all (isSign digits)
abbrev idB (z : Str) : Bool := wordB 6 true z
abbrev cellB (z : Str) : Bool := wordB 4 false z
theorem cellPool_ok : ∀ y ∈ cellPool, cellB y = true := by decide +kernel
def idPool : List Str := ["a", "b", "1", "00", "z9", "zzzzzz", "000000", "a1", "q", "write", "query", "budget", "reads", "end"]
def wIds (n : Nat) : List Str := (List.range n).map fun k : Nat => ("w" : Str) ++ Str.ofString (toString (k : Int))
def xIds (n : Nat) : List Str := (List.range n).map fun k : Nat => ("x" : Str) ++ Str.ofString (toString (k : Int))
theorem pool1_62 : (idPool ++ xIds 62).Nodup := by decide +kernel
theorem pool2_62 : (wIds 62 ++ xIds 62).Nodup := by decide +kernel
theorem ids_62 : (∀ y ∈ idPool ++ xIds 62, idB y = true) ∧ ∀ y ∈ wIds 62, idB y = true := by decide +kernel
theorem len_dec : ∀ j : Nat, j < 62 → (Str.ofString (toString (j : Int))).length ≤ 3 := by decide +kernel
theorem w_len (j : Nat) (h : j < 62) : ("w" : Str).length + (Str.ofString (toString (j : Int))).length ≤ sizeLine := by
  have e : ("w" : Str).length = 1 := rfl
  have := len_dec j h
  rw [e, sizeLine_eq]; omega
theorem x_len (j : Nat) (h : j < 62) : ("x" : Str).length + (Str.ofString (toString (j : Int))).length ≤ sizeLine := by
  have e : ("x" : Str).length = 1 := rfl
  have := len_dec j h
  rw [e, sizeLine_eq]; omega
/-- a comprehension over a range whose element is a function of the turn -/
theorem lc_pure {te : TE} {i : Nat} {σ : L2.St} {C : Addr} {cnt : Nat} {H0 : Hp} {Qd : Hp → Prop} (f : Nat → V) (hn : cnt < 1000)
    (hte : ∀ (j : Nat) (H2 : Hp) (Q : V → Hp → Prop), j < cnt → Q (f j) H2 → te ((wipe σ [i]).set i (some (.int (0 + j)))) H2 Q) (hd : Qd (upd H0 C (.lst ((List.range cnt).map f)))) :
    ∃ W : Nat → Nat → Hp → Prop, (∃ m, W 0 m (upd H0 C (.lst []))) ∧ ∀ j m H, W j m H →
      ((Itr 0 cnt).stop j H ∧ Qd H) ∨ ((Itr 0 cnt).go j H ∧ ∃ Nx : Hp → Prop, (∀ H', Nx H' → ∃ m', m' < m ∧ W (j + 1) m' H') ∧ ∀ x H', (Itr 0 cnt).yld j H x H' → gName i x (wipe σ [i]) H' fun σ2 H2 => wipe σ2 [i] = wipe σ [i] ∧ tYes σ2 H2 fun b H3 =>
        if b = true then te σ2 H3 fun y H4 => ∃ acc, H4 C = some (.lst acc) ∧ acc.length < sizeLine ∧ Nx (upd H4 C (.lst (acc ++ [y]))) else Nx H3) := by
  refine lc_range (lo := 0) (n := cnt) (fun j H' => H' = upd H0 C (.lst ((List.range j).map f))) rfl (fun j H' hj e => ?_) (fun H' e => by rw [e]; exact hd)
  subst e
  refine ⟨wipe_again, ?_⟩
  change te ((wipe σ [i]).set i (some (.int (0 + (j : Int))))) _ _
  refine hte j _ _ hj ⟨_, upd_same, ?_, ?_⟩
  · rw [List.length_map, List.length_range]
    exact small1000 (by omega)
  · rw [upd_upd, List.range_succ, List.map_append]
    rfl
theorem range_take {n m : Nat} (h : n ≤ m) : List.range n = (List.range m).take n := by
  rw [List.take_range, Nat.min_eq_left h]
theorem xIds_take {n m : Nat} (h : n ≤ m) : xIds n = (xIds m).take n := by
  unfold xIds
  rw [range_take h, List.map_take]
theorem wIds_take {n m : Nat} (h : n ≤ m) : wIds n = (wIds m).take n := by
  unfold wIds
  rw [range_take h, List.map_take]
theorem xIds_len (n : Nat) : (xIds n).length = n := by unfold xIds; rw [List.length_map, List.length_range]
theorem wIds_len (n : Nat) : (wIds n).length = n := by unfold wIds; rw [List.length_map, List.length_range]
/-- all ids that may be drawn -/
def idAll : List Str := idPool ++ wIds 62 ++ xIds 62
/-- what the pool of ids may be -/
structure IdZs (zs : List Str) : Prop where
  nd : zs.Nodup
  ok : ∀ y ∈ zs, idB y = true
  far : ∀ y ∈ zs, y ∈ idAll
theorem pool1_ok {n : Nat} (h : n ≤ 62) : IdZs (idPool ++ xIds n) := by
  have e := xIds_take h
  have sub : (idPool ++ xIds n).Sublist (idPool ++ xIds 62) := by
    rw [e]
    exact (List.take_sublist _ _).append_left _
  exact ⟨pool1_62.sublist sub, fun y hy => ids_62.1 y (sub.subset hy), fun y hy => by
    rcases List.mem_append.mp (sub.subset hy) with z | z
    · exact List.mem_append_left _ (List.mem_append_left _ z)
    · exact List.mem_append_right _ z⟩
theorem pool2_ok {n : Nat} (h : n ≤ 62) : IdZs (wIds n ++ xIds n) := by
  have s1 : (wIds n).Sublist (wIds 62) := by rw [wIds_take h]; exact List.take_sublist _ _
  have s2 : (xIds n).Sublist (xIds 62) := by rw [xIds_take h]; exact List.take_sublist _ _
  refine ⟨pool2_62.sublist (s1.append s2), fun y hy => ?_, fun y hy => ?_⟩
  · rcases List.mem_append.mp hy with z | z
    · exact ids_62.2 y (s1.subset z)
    · exact ids_62.1 y (List.mem_append_right _ (s2.subset z))
  · rcases List.mem_append.mp hy with z | z
    · exact List.mem_append_left _ (List.mem_append_right _ (s1.subset z))
    · exact List.mem_append_right _ (s2.subset z)
theorem digits_small {j : Nat} (h : j < 1000) : (j : Int).natAbs.log2 < 1920 := by
  have : (j : Int).natAbs.log2 ≤ (j : Int).natAbs := Nat.log2_le_self _
  omega

end NV
/-! D8 -/
set_option Elab.async false
set_option linter.all false
set_option maxRecDepth 100000
set_option maxHeartbeats 400000
namespace NV
open PySem PySem.Spec PyProof.Rows L2
open C8 (pss_cut)
abbrev sLawIds : Stmt := topS 53
theorem scLawIds : FnScope ["draw", "many", "pool", "k"] ["draw", "many"] (defScope sLawIds) := ⟨rfl, rfl, rfl, by decide +kernel, rfl, by decide +kernel, by decide +kernel⟩
def spIds : Sp := fun vs H Q _ => ∃ (D : Dr) (n many : Nat), vs = [.ref D.d, .int many] ∧ many ≤ 62 ∧ DrAt D (n + (1 + many)) H ∧
  ∀ (ys : List Str) (p : Addr) (H' : Hp), IdZs ys → ys.length = many → H p = none → H' p = some (.lst (ys.map V.str)) → Kp D.ex H H' → DrAt D n H' → Q (.ref p) H'
section
variable {P : Program} {w : World} {K : PySem.W.Frag} {mg : Str → Option Value} {base : Heap}
theorem ok_ids (DLawIds : Fn K mg "_law_ids" sLawIds ["draw", "many"]) (DLawTake : Fn K mg "_law_take" sLawTake ["draw", "size"]) (b_len : mg "len" = none) (b_str : mg "str" = none) (b_range : mg "range" = none) (b_min : mg "min" = none)
    (GLawTake : FnOk P w K mg base CX0 2 DLawTake.f DLawTake.fd ["draw", "size"] spTake) : FnOk P w K mg base CX0 3 DLawIds.f DLawIds.fd ["draw", "many"] spIds := by
  refine DLawIds.F.ok scLawIds (fun vs H Q E h => ?_) (fun cdv A outer s H vs Q E hr h => ?_)
  · obtain ⟨D, n, many, rfl, _⟩ := h
    rfl
  obtain ⟨D, n, many, rfl, hm, hD, q⟩ := h
  refine ⟨_, pss_cons (ps_set (i := 2) scLawIds.nd rfl (.inr rfl) (pe_lst (pa_cons pe_str (pa_cons pe_str (pa_cons pe_str (pa_cons pe_str (pa_cons pe_str (pa_cons pe_str (pa_cons pe_str (pa_cons pe_str (pa_cons pe_str (pa_cons pe_str (pa_cons pe_str (pa_cons pe_str (pa_cons pe_str (pa_cons pe_str pa_nil))))))))))))))))
      (pss_cut (ps_if (pt_cmpR op_eq (pe_fn DLawTake GLawTake hr (pa_cons (pv 0) (pa_cons pe_int pa_nil))) pe_int (nomark _))
      (pss_one (ps_set (i := 2) scLawIds.nd rfl (.inr rfl) (pe_lc (own := [("k", 3)]) (g := gName 3) (tt := tYes) (by rfl) scLawIds.nd (pi_range1 rfl b_range (pa_cons (pv 1) pa_nil)) (blkOk_by (N := ["draw", "many", "pool", "k"]) (sc := defScope sLawIds) (by decide +kernel)) (fun _ _ _ _ _ => (pg_name (i := 3) scLawIds.nd rfl (.inl rfl))) (fun _ _ _ _ _ => pts_nil) (fun _ _ _ _ _ => (pe_op op_add_str pe_str (pe_callTy call_str_int (by rfl) b_str (by decide +kernel) (pa_cons (pv 3) pa_nil)))))))
      pss_nil)
      (pss_cons (ps_set (i := 2) scLawIds.nd rfl (.inr rfl) (pe_op op_cat (pv 2) (pe_lc (own := [("k", 3)]) (g := gName 3) (tt := tYes) (by rfl) scLawIds.nd (pi_range1 rfl b_range (pa_cons (pv 1) pa_nil)) (blkOk_by (N := ["draw", "many", "pool", "k"]) (sc := defScope sLawIds) (by decide +kernel)) (fun _ _ _ _ _ => (pg_name (i := 3) scLawIds.nd rfl (.inl rfl))) (fun _ _ _ _ _ => pts_nil) (fun _ _ _ _ _ => (pe_op op_add_str pe_str (pe_callTy call_str_int (by rfl) b_str (by decide +kernel) (pa_cons (pv 3) pa_nil)))))))
      (pss_one (ps_ret (pe_lc (own := [("k", 3)]) (g := gName 3) (tt := tYes) (by rfl) scLawIds.nd (pi_range1 rfl b_range (pa_cons (pv 1) pa_nil)) (blkOk_by (N := ["draw", "many", "pool", "k"]) (sc := defScope sLawIds) (by decide +kernel)) (fun _ _ _ _ _ => (pg_name (i := 3) scLawIds.nd rfl (.inl rfl))) (fun _ _ _ _ _ => pts_nil) (fun _ _ _ _ _ => (bmE K PySem.F.plainAttrs_list PySem.F.slot_list_pop PySem.F.type_list_pop mt_popAt (pv 2) (pa_cons (pe_fn DLawTake GLawTake hr (pa_cons (pv 0) (pa_cons (pe_callB (call_min2 rfl) (by rfl) b_min (by decide +kernel) (pa_cons pe_int (pa_cons (pe_callB (lenE K) (by rfl) b_len (by decide +kernel) (pa_cons (pv 2) pa_nil)) pa_nil))) pa_nil))) pa_nil)))))))), ?_⟩
  refine ⟨by show 14 ≤ sizeLine; decide, fun pl hpl => ?_⟩
  have hDp := hD.keep (H' := upd H pl (.lst (idPool.map V.str))) (Kp.laid hpl)
  have epl : upd H pl (.lst (idPool.map V.str)) pl = some (.lst (idPool.map V.str)) := upd_same
  have k1 : Kp [] H (upd H pl (.lst (idPool.map V.str))) := Kp.laid hpl
  have npl := hD.fresh hpl
  show _
  refine ⟨fun σ H2 => ∃ (p : Addr) (zs : List Str), σ = [some (.ref D.d), some (.int many), some (.ref p), none] ∧ H2 p = some (.lst (zs.map V.str)) ∧ p ∉ D.all ∧ H p = none ∧ IdZs (zs ++ xIds many) ∧ zs.length ≤ 62 ∧ Kp D.ex H H2 ∧ DrAt D (n + many) H2, ?_, ?_⟩
  · generalize hH1 : upd H pl (.lst (idPool.map V.str)) = H1 at hDp epl k1
    rw [show upd H pl (.lst [V.str "a", V.str "b", V.str "1", V.str "00", V.str "z9", V.str "zzzzzz", V.str "000000", V.str "a1", V.str "q", V.str "write", V.str "query", V.str "budget", V.str "reads", V.str "end"]) = H1 from hH1]
    refine ⟨_, rfl, D, n + many, 2, rfl, by decide, by decide, hDp.less (by omega), fun i H2 i0 i1 k2 d2 => ⟨rfl, _, rfl, ite2 (fun c => ?_) (fun c => ?_)⟩⟩
    · refine ⟨_, rfl, many, rfl, by omega, by omega, fun C nC => ?_⟩
      have nC0 : H C = none := ((k1.mono (by simp)).trans k2).none_before nC d2
      refine lc_pure (cnt := many) (fun j => .str (("w" : Str) ++ Str.ofString (toString (j : Int)))) (by omega) (fun j H3 Q3 hj q3 => ?_) ?_
      · refine ⟨_, rfl, _, rfl, (by rw [Int.zero_add]; exact digits_small (j := j) (by omega)), _, _, rfl, rfl, ?_, ?_⟩
        · rw [Int.zero_add]
          exact w_len j (by omega)
        · have e : (0 : Int) + (j : Int) = (j : Int) := by omega
          rw [e]
          exact q3
      · refine ⟨C, wIds many, rfl, ?_, d2.fresh nC, nC0, pool2_ok hm, by rw [wIds_len]; exact hm, ((k1.mono (by simp)).trans k2).trans (Kp.laid nC), (d2.less (by omega)).keep (Kp.laid nC)⟩
        rw [upd_same]
        unfold wIds
        rw [List.map_map]
        rfl
    · exact ⟨pl, idPool, rfl, k2 _ _ (Dr.sub npl) epl, npl, hpl, pool1_ok hm, by decide, (k1.mono (by simp)).trans k2, d2.less (by omega)⟩
  · rintro σ H2 ⟨p, zs, rfl, ep, np, np0, hz, hz2, k2, d2⟩
    -- pool + ['x' + str(k) ..]
    refine ⟨_, rfl, _, rfl, many, rfl, by omega, by omega, fun C nC => ?_⟩
    refine lc_pure (cnt := many) (fun j => .str (("x" : Str) ++ Str.ofString (toString (j : Int)))) (by omega) (fun j H3 Q3 hj q3 => ?_) ?_
    · refine ⟨_, rfl, _, rfl, (by rw [Int.zero_add]; exact digits_small (j := j) (by omega)), _, _, rfl, rfl, ?_, ?_⟩
      · rw [Int.zero_add]
        exact x_len j (by omega)
      · have e : (0 : Int) + (j : Int) = (j : Int) := by omega
        rw [e]
        exact q3
    · have eC : (List.range many).map (fun j : Nat => V.str (("x" : Str) ++ Str.ofString (toString (j : Int)))) = (xIds many).map V.str := by
        unfold xIds
        rw [List.map_map]
        rfl
      have nCp : p ≠ C := fun z => by rw [z, nC] at ep; cases ep
      have hl : (zs.map V.str).length + ((xIds many).map V.str).length ≤ sizeLine := by
        rw [List.length_map, List.length_map, xIds_len]
        exact Nat.le_of_lt (small1000 (by omega))
      refine ⟨p, C, zs.map V.str, (xIds many).map V.str, rfl, rfl, by rw [upd_ne nCp]; exact ep, by rw [← eC]; exact upd_same, hl, fun p2 np2 => ?_⟩
      have k3 : Kp [] H2 (upd (upd H2 C (.lst ((List.range many).map (fun j : Nat => V.str (("x" : Str) ++ Str.ofString (toString (j : Int))))))) p2 (.lst (zs.map V.str ++ (xIds many).map V.str))) := (Kp.laid nC).trans (Kp.laid np2)
      have e2 : (upd (upd H2 C (.lst ((List.range many).map (fun j : Nat => V.str (("x" : Str) ++ Str.ofString (toString (j : Int))))))) p2 (.lst (zs.map V.str ++ (xIds many).map V.str))) p2 = some (.lst ((zs ++ xIds many).map V.str)) := by rw [upd_same, List.map_append]
      have d3 := d2.keep k3
      have np2a : p2 ∉ D.all := (d2.keep (Kp.laid nC)).fresh np2
      have np20 : H p2 = none := (k2.trans (Kp.laid nC)).none_before np2 (d2.keep (Kp.laid nC))
      generalize upd (upd H2 C (.lst ((List.range many).map (fun j : Nat => V.str (("x" : Str) ++ Str.ofString (toString (j : Int))))))) p2 (.lst (zs.map V.str ++ (xIds many).map V.str)) = H3 at k3 e2 d3 ⊢
      have k03 : Kp D.ex H H3 := k2.trans (k3.mono (by simp))
      refine ⟨_, rfl, many, rfl, by omega, by omega, fun C2 nC2 => ?_⟩
      have zl : (zs ++ xIds many).length = zs.length + many := by rw [List.length_append, xIds_len]
      refine pops (Dr := D) (n := n) (zs := zs ++ xIds many) (pl := p2) (cnt := many) (by omega) (by omega) e2 np2a d3 nC2 (fun j H4 rest m Q4 h1 h2 h3 h4 h5 => ?_) (fun H4 got rest hg hp hC k4 d4 => ?_)
      · refine ⟨_, rfl, .inl ⟨rfl, _, SqL.of h1⟩, _, rfl, _, rfl, p2, _, rfl, .inl (SqL.of h1), _, _, rfl, ?_⟩
        rw [List.length_map]
        refine pop_turn np2a h1 h4 ?_ ?_ h3 h5
        · split <;> omega
        · split <;> omega
      · refine q got C2 H4 ⟨(List.nodup_append.mp (hp.nodup_iff.mpr hz.nd)).2.1, fun y hy => hz.ok y (hp.mem_iff.mp (List.mem_append_right _ hy)), fun y hy => hz.far y (hp.mem_iff.mp (List.mem_append_right _ hy))⟩ hg ?_ hC ((k03.mono fun b hb => List.mem_cons_of_mem _ hb).trans k4 |>.drop np20) d4
        exact k03.none_before nC2 d3
end
end NV
/-! D9 -/
set_option Elab.async false
set_option linter.all false
set_option maxRecDepth 100000
set_option maxHeartbeats 400000
namespace NV
open PySem PySem.Spec PyProof.Rows L2
open C8 (pss_cut)
/-! ### data that stands still -/
mutual
def Rp (ex : List Addr) (H : Hp) : PyData → V → Prop
  | .none, v => v = .non
  | .bool b, v => v = .bl b
  | .int i, v => v = .int i
  | .str z, v => v = .str z
  | .list ds, v => ∃ a xs, v = .ref a ∧ a ∉ ex ∧ H a = some (.lst xs) ∧ RpAll ex H ds xs
  | .tuple ds, v => ∃ a xs, v = .ref a ∧ a ∉ ex ∧ H a = some (.tup xs) ∧ RpAll ex H ds xs
  | .dict kvs, v => kvs = [] ∧ ∃ a, v = .ref a ∧ a ∉ ex ∧ H a = some (.dK [])
def RpAll (ex : List Addr) (H : Hp) : List PyData → List V → Prop
  | [], vs => vs = []
  | d :: ds, vs => ∃ v ws, vs = v :: ws ∧ Rp ex H d v ∧ RpAll ex H ds ws
end
mutual
theorem Rp.keep {ex : List Addr} {H H' : Hp} (k : Kp ex H H') : ∀ (d : PyData) (v : V), Rp ex H d v → Rp ex H' d v
  | .none, _, h => h
  | .bool _, _, h => h
  | .int _, _, h => h
  | .str _, _, h => h
  | .list ds, v, h => by
    obtain ⟨a, xs, e, na, h1, h2⟩ := h
    exact ⟨a, xs, e, na, k a _ na h1, RpAll.keep k ds xs h2⟩
  | .tuple ds, v, h => by
    obtain ⟨a, xs, e, na, h1, h2⟩ := h
    exact ⟨a, xs, e, na, k a _ na h1, RpAll.keep k ds xs h2⟩
  | .dict kvs, v, h => by
    obtain ⟨z, a, e, na, h1⟩ := h
    exact ⟨z, a, e, na, k a _ na h1⟩
theorem RpAll.keep {ex : List Addr} {H H' : Hp} (k : Kp ex H H') : ∀ (ds : List PyData) (vs : List V), RpAll ex H ds vs → RpAll ex H' ds vs
  | [], _, h => h
  | d :: ds, vs, h => by
    obtain ⟨v, ws, e, h1, h2⟩ := h
    exact ⟨v, ws, e, Rp.keep k d v h1, RpAll.keep k ds ws h2⟩
end
mutual
theorem Rp.less {ex ex' : List Addr} {H : Hp} (s : ∀ b ∈ ex', b ∈ ex) : ∀ (d : PyData) (v : V), Rp ex H d v → Rp ex' H d v
  | .none, _, h => h
  | .bool _, _, h => h
  | .int _, _, h => h
  | .str _, _, h => h
  | .list ds, v, h => by
    obtain ⟨a, xs, e, na, h1, h2⟩ := h
    exact ⟨a, xs, e, fun z => na (s a z), h1, RpAll.less s ds xs h2⟩
  | .tuple ds, v, h => by
    obtain ⟨a, xs, e, na, h1, h2⟩ := h
    exact ⟨a, xs, e, fun z => na (s a z), h1, RpAll.less s ds xs h2⟩
  | .dict kvs, v, h => by
    obtain ⟨z, a, e, na, h1⟩ := h
    exact ⟨z, a, e, fun z => na (s a z), h1⟩
theorem RpAll.less {ex ex' : List Addr} {H : Hp} (s : ∀ b ∈ ex', b ∈ ex) : ∀ (ds : List PyData) (vs : List V), RpAll ex H ds vs → RpAll ex' H ds vs
  | [], _, h => h
  | d :: ds, vs, h => by
    obtain ⟨v, ws, e, h1, h2⟩ := h
    exact ⟨v, ws, e, Rp.less s d v h1, RpAll.less s ds ws h2⟩
end
theorem RpAll.strs {ex : List Addr} {H : Hp} : ∀ zs : List Str, RpAll ex H (zs.map PyData.str) (zs.map V.str)
  | [] => rfl
  | z :: r => ⟨_, _, rfl, rfl, RpAll.strs r⟩
theorem RpAll.app {ex : List Addr} {H : Hp} : ∀ {ds es : List PyData} {xs ys : List V}, RpAll ex H ds xs → RpAll ex H es ys → RpAll ex H (ds ++ es) (xs ++ ys)
  | [], _, _, _, h, h' => by
    have e : _ = [] := h
    subst e
    exact h'
  | d :: ds, es, xs, ys, h, h' => by
    obtain ⟨v, ws, e, h1, h2⟩ := h
    subst e
    exact ⟨v, ws ++ ys, rfl, h1, RpAll.app h2 h'⟩
theorem RpAll.one {ex : List Addr} {H : Hp} {d : PyData} {v : V} (h : Rp ex H d v) : RpAll ex H [d] [v] := ⟨v, [], rfl, h, rfl⟩
theorem RpAll.len {ex : List Addr} {H : Hp} : ∀ {ds : List PyData} {xs : List V}, RpAll ex H ds xs → ds.length = xs.length
  | [], _, h => by
    have e : _ = [] := h
    rw [e]; rfl
  | d :: ds, xs, h => by
    obtain ⟨v, ws, e, _, h2⟩ := h
    rw [e, List.length_cons, List.length_cons, RpAll.len h2]
/-- all of ex is held -/
def Live (ex : List Addr) (H : Hp) : Prop := ∀ b ∈ ex, H b ≠ none
theorem Live.fresh {ex : List Addr} {H : Hp} {p : Addr} (l : Live ex H) (hp : H p = none) : p ∉ ex := fun z => l p z hp
theorem Live.keep {ex : List Addr} {D : Dr} {n : Nat} {H H' : Hp} (l : Live ex H) (k : Kp D.ex H H') (d : DrAt D n H') : Live ex H' := fun b hb e => by
  have := k.none_before e d
  exact l b hb this
/-! ### entries -/
inductive Ent where
  | wr (id : Str) (rs ws : List Str) (pr : Option Int)
  | qu (id : Str) (cs : List Str)
def prD : Option Int → PyData
  | none => .none
  | some i => .int i
def Ent.data : Ent → PyData
  | .wr id rs ws pr => .tuple [.str "write", .str id, .tuple (rs.map .str), .tuple (ws.map .str), prD pr]
  | .qu id cs => .tuple [.str "query", .str id, .tuple (cs.map .str)]
def Ent.id : Ent → Str
  | .wr id .. => id
  | .qu id _ => id
structure CellsOk (least : Nat) (cs : List Str) : Prop where
  asc : Asc cs
  ok : ∀ c ∈ cs, cellB c = true
  lo : least ≤ cs.length
  hi : cs.length ≤ 3
def PrOk (pr : Option Int) : Prop := ∀ i, pr = some i → 1 ≤ i ∧ i ≤ 99
def Ent.Ok : Ent → Prop
  | .wr id rs ws pr => idB id = true ∧ CellsOk 0 rs ∧ CellsOk 1 ws ∧ PrOk pr
  | .qu id cs => idB id = true ∧ CellsOk 1 cs
structure LogOk (es : List Ent) : Prop where
  ok : ∀ e ∈ es, e.Ok
  nd : (es.map Ent.id).Nodup
def logD (es : List Ent) : PyData := .tuple (es.map Ent.data)

abbrev sLawPrice : Stmt := topS 54
theorem scLawPrice : FnScope ["draw"] ["draw"] (defScope sLawPrice) := ⟨rfl, rfl, rfl, by decide +kernel, rfl, by decide +kernel, by decide +kernel⟩
def prV : Option Int → V
  | none => .non
  | some i => .int i
theorem prV_rp {ex : List Addr} {H : Hp} : ∀ pr, Rp ex H (prD pr) (prV pr)
  | none => rfl
  | some _ => rfl
def spPrice : Sp := fun vs H Q _ => ∃ (D : Dr) (n : Nat), vs = [.ref D.d] ∧ DrAt D (n + 2) H ∧ ∀ (pr : Option Int) (H' : Hp), PrOk pr → Kp D.ex H H' → DrAt D n H' → Q (prV pr) H'
section
variable {P : Program} {w : World} {K : PySem.W.Frag} {mg : Str → Option Value} {base : Heap}
theorem ok_price (DLawPrice : Fn K mg "_law_price" sLawPrice ["draw"]) (DLawTake : Fn K mg "_law_take" sLawTake ["draw", "size"]) (DLawPick : Fn K mg "_law_pick" sLawPick ["draw", "some"])
    (GLawTake : FnOk P w K mg base CX0 2 DLawTake.f DLawTake.fd ["draw", "size"] spTake) (GLawPick : FnOk P w K mg base CX0 3 DLawPick.f DLawPick.fd ["draw", "some"] (spPick K)) : FnOk P w K mg base CX0 4 DLawPrice.f DLawPrice.fd ["draw"] spPrice := by
  refine DLawPrice.F.ok scLawPrice (fun vs H Q E h => ?_) (fun cdv A outer s H vs Q E hr h => ?_)
  · obtain ⟨D, n, rfl, _⟩ := h
    rfl
  obtain ⟨D, n, rfl, hD, q⟩ := h
  refine ⟨_, pss_one (ps_ret (pe_fn DLawPick GLawPick hr (pa_cons (pv 0) (pa_cons (pe_lst (pa_cons pe_int (pa_cons pe_int (pa_cons pe_int (pa_cons pe_int (pa_cons pe_int (pa_cons pe_int (pa_cons pe_int (pa_cons pe_int (pa_cons (pe_op op_add pe_int (pe_fn DLawTake GLawTake hr (pa_cons (pv 0) (pa_cons pe_int pa_nil)))) (pa_cons pe_non pa_nil))))))))))) pa_nil)))), ?_⟩
  refine ⟨_, rfl, _, rfl, D, n + 1, 99, rfl, by decide, by decide, hD, fun i H1 i0 i1 k1 d1 => ⟨_, _, rfl, rfl, by show 10 ≤ sizeLine; decide, fun p hp => ?_⟩⟩
  refine ⟨D, n, p, _, rfl, SqL.of upd_same, by show 0 < 10; decide, by show 10 < 1073741824; decide, Dr.sub (d1.fresh hp), d1.keep (Kp.laid hp), fun j v H' hj k2 d2 => ?_⟩
  have kk : Kp D.ex H H' := k1.trans ((Kp.laid hp).trans k2)
  obtain ⟨pr, rfl, hpr⟩ : ∃ pr, v = prV pr ∧ PrOk pr := by
    match j, hj with
    | 0, h => exact ⟨some 1, (Option.some.inj h).symm, fun i e => by cases e; decide⟩
    | 1, h => exact ⟨some 1, (Option.some.inj h).symm, fun i e => by cases e; decide⟩
    | 2, h => exact ⟨some 1, (Option.some.inj h).symm, fun i e => by cases e; decide⟩
    | 3, h => exact ⟨some 2, (Option.some.inj h).symm, fun i e => by cases e; decide⟩
    | 4, h => exact ⟨some 2, (Option.some.inj h).symm, fun i e => by cases e; decide⟩
    | 5, h => exact ⟨some 3, (Option.some.inj h).symm, fun i e => by cases e; decide⟩
    | 6, h => exact ⟨some 5, (Option.some.inj h).symm, fun i e => by cases e; decide⟩
    | 7, h => exact ⟨some 99, (Option.some.inj h).symm, fun i e => by cases e; decide⟩
    | 8, h => exact ⟨some (1 + i), (Option.some.inj h).symm, fun i' e => by cases e; omega⟩
    | 9, h => exact ⟨none, (Option.some.inj h).symm, fun i e => by cases e⟩
    | j + 10, h => simp at h
  exact q pr H' hpr kk d2
end
end NV
/-! ReprRp -/
set_option Elab.async false
set_option linter.all false
set_option maxRecDepth 100000
set_option maxHeartbeats 600000
/-! repr of data -/
namespace NV
open PySem PySem.Spec PyProof.Rows L2
section
variable {P : Program} {w : World} {ex : List Addr} {H : Hp} {h : Heap}
theorem no_entries (ok : HOk P w H h) {a : Addr} (e : H a = some (.dK [])) : (a == sysModules) = false ∧ ∃ (o : Obj) (es : Array DictEntry) (ep : Nat), h.get? a = some o ∧ o.cls = .type "dict" ∧ o.data = .dict es ep ∧ es.toList = [] := by
  obtain ⟨_, hs, vs, kv, o, es, ep, ho, hx, hd, _, hp, _⟩ := ok a _ e
  cases kv
  refine ⟨hs, o, es, ep, ho, hx.1, hd, ?_⟩
  cases hp' : es.toList with
  | nil => rfl
  | cons x l =>
    rw [hp'] at hp
    cases hp
mutual
theorem rp_reads (ok : HOk P w H h) : ∀ (d : PyData) (v : V) (u : Value), Rp ex H d v → RelV v u → ∃ as, Reads h u d as
  | .none, _, u, e, r => by
    subst e
    obtain rfl : u = Value.none := r
    exact ⟨_, .none⟩
  | .bool b, _, u, e, r => by
    subst e
    obtain rfl : u = Value.bool b := r
    exact ⟨_, .bool b⟩
  | .int i, _, u, e, r => by
    subst e
    obtain ⟨t, rfl⟩ : ∃ t, u = Value.int i t := r
    exact ⟨_, .int i t⟩
  | .str z, _, u, e, r => by
    subst e
    obtain ⟨t, rfl⟩ : ∃ t, u = Value.str z t := r
    exact ⟨_, .str z t⟩
  | .list ds, _, u, e, r => by
    obtain ⟨a, xs, rfl, _, e1, e2⟩ := e
    obtain rfl : u = Value.ref a := r
    obtain ⟨_, its, n, rv, ho⟩ := ok a _ e1
    obtain ⟨as, ra⟩ := rps_reads ok ds xs its e2 rv
    exact ⟨_, .list ho rfl rfl ra⟩
  | .tuple ds, _, u, e, r => by
    obtain ⟨a, xs, rfl, _, e1, e2⟩ := e
    obtain rfl : u = Value.ref a := r
    obtain ⟨_, its, rv, o, ho, hc, n, hd⟩ := ok a _ e1
    obtain ⟨as, ra⟩ := rps_reads ok ds xs its e2 rv
    exact ⟨_, .tuple ho hc hd ra⟩
  | .dict kvs, _, u, e, r => by
    obtain ⟨rfl, a, rfl, _, e1⟩ := e
    obtain rfl : u = Value.ref a := r
    obtain ⟨_, o, es, ep, ho, hc, hd, hn⟩ := no_entries ok e1
    exact ⟨_, .dict ho hc hd (by rw [hn]; exact .nil) (by rw [hn]; exact .nil)⟩
theorem rps_reads (ok : HOk P w H h) : ∀ (ds : List PyData) (vs : List V) (us : List Value), RpAll ex H ds vs → Vals vs us → ∃ as, ReadsAll h us ds as
  | [], _, us, e, r => by
    subst e
    cases r
    exact ⟨_, .nil⟩
  | d :: ds, _, us, e, r => by
    obtain ⟨v, ws, rfl, e1, e2⟩ := e
    cases r with
    | cons r1 r2 =>
      obtain ⟨as, ra⟩ := rp_reads ok d v _ e1 r1
      obtain ⟨bs, rb⟩ := rps_reads ok ds ws _ e2 r2
      exact ⟨_, .cons ra rb⟩
end
mutual
theorem rp_shows (ok : HOk P w H h) : ∀ (d : PyData) (v : V) (u : Value), Rp ex H d v → RelV v u → d.showable = true → d.shown.length ≤ sizeLine → ∃ bs, ReadAtMost h d.depth bs ∧ ReprK P w bs h d.depth u d.shown
  | .none, _, u, e, r, _, _ => by
    subst e
    obtain rfl : u = Value.none := r
    exact ⟨[], (fun _ h => nomatch h), by simp only [PyData.shown]; exact .of_is ReprIs.none _ _ _⟩
  | .bool b, _, u, e, r, _, _ => by
    subst e
    obtain rfl : u = Value.bool b := r
    exact ⟨[], (fun _ h => nomatch h), by simp only [PyData.shown]; exact .of_is (ReprIs.bool b) _ _ _⟩
  | .int i, _, u, e, r, hs, _ => by
    subst e
    obtain ⟨t, rfl⟩ : ∃ t, u = Value.int i t := r
    exact ⟨[], (fun _ h => nomatch h), by simp only [PyData.shown]; exact .of_is (ReprIs.int t (by simpa [PyData.showable] using hs)) _ _ _⟩
  | .str z, _, u, e, r, _, hz => by
    subst e
    obtain ⟨t, rfl⟩ : ∃ t, u = Value.str z t := r
    exact ⟨[], (fun _ h => nomatch h), by simp only [PyData.shown]; exact .of_is (ReprIs.str z t (by simpa only [PyData.shown] using hz)) _ _ _⟩
  | .list ds, v, u, e, r, hs, hz => by
    obtain ⟨as0, r0⟩ := rp_reads ok (.list ds) v u e r
    obtain ⟨a, xs, rfl, _, e1, e2⟩ := e
    obtain rfl : u = Value.ref a := r
    obtain ⟨_, its, n, rv, ho⟩ := ok a _ e1
    have hz' : (listText (PyData.shownAll ds)).length ≤ sizeLine := by simpa only [PyData.shown] using hz
    obtain ⟨bs, hb, hk⟩ := rps_show ok ds xs its e2 rv (by simpa [PyData.showable] using hs) fun t ht => Nat.le_trans (listText_mem_le ht) hz'
    have hna : a ∉ bs := not_mem_of_deeper r0 (by simp only [PyData.depth]; omega) hb
    refine ⟨a :: bs, ReadAtMost.cons r0 (by simp only [PyData.depth]; omega) hb, ?_⟩
    simp only [PyData.depth, PyData.shown]
    cases its with
    | nil =>
      have hl : PyData.shownAll ds = [] := by
        have := hk.length_eq
        exact List.eq_nil_of_length_eq_zero this
      rw [hl, listText_nil]
      exact ReprK.listEmpty ho rfl rfl
    | cons x l => exact ReprK.list ho rfl rfl hna (by simpa using hk.length_eq) (fun i y e => hk.item i y (by simpa using e))
  | .tuple ds, v, u, e, r, hs, hz => by
    obtain ⟨as0, r0⟩ := rp_reads ok (.tuple ds) v u e r
    obtain ⟨a, xs, rfl, _, e1, e2⟩ := e
    obtain rfl : u = Value.ref a := r
    obtain ⟨_, its, rv, o, ho, hc, n, hd⟩ := ok a _ e1
    have hz' : (tupleText (PyData.shownAll ds)).length ≤ sizeLine := by simpa only [PyData.shown] using hz
    obtain ⟨bs, hb, hk⟩ := rps_show ok ds xs its e2 rv (by simpa [PyData.showable] using hs) fun t ht => Nat.le_trans (tupleText_mem_le ht) hz'
    have hna : a ∉ bs := not_mem_of_deeper r0 (by simp only [PyData.depth]; omega) hb
    refine ⟨a :: bs, ReadAtMost.cons r0 (by simp only [PyData.depth]; omega) hb, ?_⟩
    simp only [PyData.depth, PyData.shown]
    exact ReprK.tuple ho hc hd hna hk
  | .dict kvs, v, u, e, r, hs, hz => by
    obtain ⟨as0, r0⟩ := rp_reads ok (.dict kvs) v u e r
    obtain ⟨rfl, a, rfl, _, e1⟩ := e
    obtain rfl : u = Value.ref a := r
    obtain ⟨hsys, o, es, ep, ho, hc, hd, hn⟩ := no_entries ok e1
    refine ⟨[a], ReadAtMost.cons r0 (Nat.zero_le _) (n := 0) (fun _ h => nomatch h), ?_⟩
    exact ReprK.dict ho hc hd hsys (as := []) (by simp) (by rw [hn]; exact .nil)
theorem rps_show (ok : HOk P w H h) : ∀ (ds : List PyData) (vs : List V) (us : List Value), RpAll ex H ds vs → Vals vs us → PyData.showableAll ds = true → (∀ t ∈ PyData.shownAll ds, t.length ≤ sizeLine) →
    ∃ bs, ReadAtMost h (PyData.depthAll ds) bs ∧ ReprAllK P w bs h (PyData.depthAll ds) us (PyData.shownAll ds)
  | [], _, us, e, r, _, _ => by
    subst e
    cases r
    exact ⟨[], (fun _ h => nomatch h), by simp only [PyData.shownAll]; exact .nil⟩
  | d :: ds, _, us, e, r, hs, hz => by
    obtain ⟨v, ws, rfl, e1, e2⟩ := e
    cases r with
    | cons r1 r2 =>
      have hs' : d.showable = true ∧ PyData.showableAll ds = true := by simpa [PyData.showableAll] using hs
      obtain ⟨b1, hb1, k1⟩ := rp_shows ok d v _ e1 r1 hs'.1 (hz _ (by simp only [PyData.shownAll]; exact List.mem_cons_self ..))
      obtain ⟨b2, hb2, k2⟩ := rps_show ok ds ws _ e2 r2 hs'.2 (fun t ht => hz t (by simp only [PyData.shownAll]; exact List.mem_cons_of_mem _ ht))
      refine ⟨b1 ++ b2, ?_, ?_⟩
      · intro b hm
        simp only [PyData.depthAll]
        rcases List.mem_append.mp hm with hm | hm
        · obtain ⟨d', as', r', hd'⟩ := hb1 b hm
          exact ⟨d', as', r', Nat.le_trans hd' (Nat.le_max_left _ _)⟩
        · obtain ⟨d', as', r', hd'⟩ := hb2 b hm
          exact ⟨d', as', r', Nat.le_trans hd' (Nat.le_max_right _ _)⟩
      · simp only [PyData.depthAll, PyData.shownAll]
        exact .cons ((k1.more fun b hb => List.mem_append_left _ hb).level_le (Nat.le_max_left _ _)) (k2.more_le (fun b hb => List.mem_append_right _ hb) (Nat.le_max_right _ _))
end
end
section
variable {X : Cx}
def rRepr : List V → Hp → VK → Prop := fun xs H Q => ∃ (v : V) (d : PyData), xs = [v] ∧ Rp [] H d v ∧ d.showable = true ∧ d.depth ≤ 64 ∧ d.shown.length ≤ sizeLine ∧ Q (.str d.shown) H
theorem cr_repr (hg : X.A.guards = some []) (hu : X.A.units + 80 < cLine) : CallR X (.builtin "repr") rRepr := by
  intro pins s σ H xs us Q I r h
  obtain ⟨v, d, rfl, e, hs, h64, hz, q⟩ := h
  obtain ⟨u, rfl, rv⟩ := vals1 r
  have fin : ∀ {h' : Heap} {u tk}, (∀ b o, s.heap.get? b = some o → h'.get? b = some o) → EP X pins σ Q (.str d.shown u) { s with heap := h', toks := tk } := fun k => ⟨.str d.shown, H, I.kept k, ⟨_, rfl⟩, q⟩
  have hA : X.A.in1.units + d.depth < cLine := by show X.A.units + 1 + d.depth < cLine; omega
  cases d with
  | none =>
    obtain rfl : v = .non := e
    obtain rfl : u = Value.none := rv
    refine PySem.P.repr_of_none ?_
    have := fin (h' := s.heap) (u := s.toks) (tk := s.toks + 1) (fun _ _ e => e)
    simp only [PyData.shown] at this
    exact this
  | bool b =>
    obtain rfl : v = .bl b := e
    obtain rfl : u = Value.bool b := rv
    refine PySem.P.repr_of_bool ?_
    have := fin (h' := s.heap) (u := s.toks) (tk := s.toks + 1) (fun _ _ e => e)
    simp only [PyData.shown] at this
    exact this
  | int i =>
    obtain rfl : v = .int i := e
    obtain ⟨t, rfl⟩ : ∃ t, u = Value.int i t := rv
    refine PySem.P.repr_of_int (by simpa [PyData.showable] using hs) ?_
    have := fin (h' := s.heap) (u := s.toks) (tk := s.toks + 1) (fun _ _ e => e)
    simp only [PyData.shown] at this
    exact this
  | str z =>
    obtain rfl : v = .str z := e
    obtain ⟨t, rfl⟩ : ∃ t, u = Value.str z t := rv
    refine PySem.P.repr_of_str ?_ (by simpa only [PyData.shown] using hz)
    have := fin (h' := s.heap) (u := s.toks) (tk := s.toks + 1) (fun _ _ e => e)
    simp only [PyData.shown] at this
    exact this
  | list ds =>
    obtain ⟨as0, r0⟩ := rp_reads I.hok (.list ds) v u e rv
    obtain ⟨a, xs, rfl, _, e1, e2⟩ := e
    obtain rfl : u = Value.ref a := rv
    obtain ⟨_, its, n, rv', ho⟩ := I.hok a _ e1
    have hz' : (listText (PyData.shownAll ds)).length ≤ sizeLine := by simpa only [PyData.shown] using hz
    obtain ⟨bs, hb, hk⟩ := rps_show I.hok ds xs its e2 rv' (by simpa [PyData.showable] using hs) fun t ht => Nat.le_trans (listText_mem_le ht) hz'
    have hna : a ∉ bs := not_mem_of_deeper r0 (by simp only [PyData.depth]; omega) hb
    simp only [PyData.depth] at hA
    simp only [PyData.shown] at fin
    refine call_repr_slot (by omega) ⟨_, ho, rfl⟩ F.slot_list_repr.toG ?_
    cases its with
    | nil =>
      have hl : PyData.shownAll ds = [] := List.eq_nil_of_length_eq_zero hk.length_eq
      rw [hl, listText_nil] at fin
      exact call_list_repr_empty ⟨_, ho, rfl⟩ ho rfl ⟨_, _, rfl, fin fun _ _ e => e⟩
    | cons x l =>
      exact call_list_reprK ho rfl rfl hna (by simpa using hk.length_eq) (fun i y e => hk.item i y (by simpa using e)) hg (fun b _ => Clear.nil b) hA (fun _ _ e => e) (fun h' u tk k => ⟨_, _, rfl, fin k⟩) hz'
  | tuple ds =>
    obtain ⟨as0, r0⟩ := rp_reads I.hok (.tuple ds) v u e rv
    obtain ⟨a, xs, rfl, _, e1, e2⟩ := e
    obtain rfl : u = Value.ref a := rv
    obtain ⟨_, its, rv', o, ho, hc, n, hd⟩ := I.hok a _ e1
    have hz' : (tupleText (PyData.shownAll ds)).length ≤ sizeLine := by simpa only [PyData.shown] using hz
    obtain ⟨bs, hb, hk⟩ := rps_show I.hok ds xs its e2 rv' (by simpa [PyData.showable] using hs) fun t ht => Nat.le_trans (tupleText_mem_le ht) hz'
    have hna : a ∉ bs := not_mem_of_deeper r0 (by simp only [PyData.depth]; omega) hb
    simp only [PyData.depth] at hA
    simp only [PyData.shown] at fin
    refine call_repr_slot (by omega) ⟨_, ho, hc⟩ F.slot_tuple_repr ?_
    exact call_tuple_reprK ho hc hd hna hk hg (fun b _ => Clear.nil b) hA (fun _ _ e => e) (fun h' u tk k => ⟨_, _, rfl, fin k⟩) hz'
  | dict kvs =>
    obtain ⟨rfl, a, rfl, _, e1⟩ := e
    obtain rfl : u = Value.ref a := rv
    obtain ⟨hsys, o, es, ep, ho, hc, hd, hn⟩ := no_entries I.hok e1
    simp only [PyData.depth, PyData.depthKv] at hA
    simp only [PyData.shown, PyData.shownKv] at fin hz
    refine call_repr_slot (by omega) ⟨_, ho, hc⟩ F.slot_dict_repr ?_
    exact call_dict_reprK ho hc hd hsys (as := []) (by simp) (by rw [hn]; exact .nil) hg (fun b _ => Clear.nil b) hA (fun _ _ e => e) (fun h' u tk k => ⟨_, _, rfl, fin k⟩) hz
end
end NV
/-! FnG -/
set_option Elab.async false
set_option linter.all false
set_option maxRecDepth 100000
set_option maxHeartbeats 600000
/-! defs that run where no repr is under way -/
namespace NV
open PySem PySem.Spec PyProof.Rows L2
structure FnOkG (P : Program) (w : World) (K : PySem.W.Frag) (mg : Str → Option Value) (base : Heap) (CX : CXT) (k : Nat) (f : Addr) (fd : FuncData) (ps : List Str) (sp : Sp) : Prop where
  len : ∀ vs H Q E, sp vs H Q E → vs.length = ps.length
  run : ∀ {A : Around} {outer : List Env} {s : Shared} {H : Hp} {args : Args} {us : List Value} {vs : List V} {Q : VK} {E : XK}, A.guards = some [] → Room k A → Env0 P w K mg base A outer s H → BindsTo s fd args (ps.zip us) → Vals vs us → sp vs H Q E →
    codeAny (model P w) A (.call (.ref f) args) (CR CX outer P w H s Q E) s
theorem FnOkG.of {P : Program} {w : World} {K : PySem.W.Frag} {mg : Str → Option Value} {base : Heap} {CX : CXT} {k : Nat} {f : Addr} {fd : FuncData} {ps : List Str} {sp : Sp} (F : FnOk P w K mg base CX k f fd ps sp) : FnOkG P w K mg base CX k f fd ps sp :=
  ⟨F.len, fun _ hr e b v q => F.run _ _ _ _ _ _ _ _ _ hr e b v q⟩
section
variable {P : Program} {w : World} {K : PySem.W.Frag} {mg : Str → Option Value} {base : Heap}
/-- a def by its body; the body knows that no repr is under way -/
theorem okG {x qual : Str} {st : Stmt} {f : Addr} {fd : FuncData} {N ps : List Str} {k : Nat} {sp : Sp} (F : Fun K x qual st f fd) (S : FnScope N ps (defScope st)) (len : ∀ vs H Q E, sp vs H Q E → vs.length = ps.length)
    (body : ∀ (cdv : Value) (A : Around) (outer : List Env) (s : Shared) (H : Hp) (vs : List V) (Q : VK) (E : XK), (A.deeper (envOfC qual (defScope st) s.heap.objs.size f cdv)).guards = some [] → Room k (A.deeper (envOfC qual (defScope st) s.heap.objs.size f cdv)) → sp vs H Q E →
      ∃ t, PSs (cxOf CX0 P w K mg base N qual (defScope st) f cdv A outer s H E).nox (defBody st) t ∧ t { nx := fun _ H' => Q .non H', rt := Q } (start N vs) H) : FnOkG P w K mg base CX0 (k + 1) f fd ps sp := by
  obtain ⟨oc, od, kV, doc, pm, an, cdv, ct, osl, rfl, lk, hcd⟩ := F.ex
  refine ⟨len, fun {A outer s H args us vs Q E} hg hr e0 hb rel hsp => ?_⟩
  have hl := len _ _ _ _ hsp
  have KX : K.In s.heap := e0.mod.kin.keeps fun b o e => (e0.bs b o e).1
  have lim : s.heap.NoLimit := e0.mod.nolimit.keeps fun b o e => (e0.bs b o e).1
  have named : ∀ y ∈ ps.zip us, (defScope st).names.lookup y.1 = some .local ∨ ((defScope st).names.lookup y.1 = some .cell ∧ ((cellsFrom (s.heap.objs.size + 1) (defScope st).names []).lookup y.1).isSome = true) := fun ⟨n, v⟩ hy =>
    (S.par n (List.of_mem_zip hy).1).elim .inl fun q => .inr ⟨q, PySem.W.cellsFrom_some _ _ _ (.inl q)⟩
  refine codeAny_call_function hr.depth (KX _ _ lk) rfl S.co S.gen rfl (PySem.W.codeRec_of KX hcd) (hb _ _ _ _ (wpAny_newFunctionEnv_cells S.kind named fun env he s1 x => ?_))
  subst he
  obtain ⟨t, ht, hq⟩ := body cdv A outer s H vs Q E hg (hr.deeper _) hsp
  refine ⟨lim.keeps x.toInCall.keep, codeAny_func (wpAny_mono (ht.nox.run [] s1 (start N vs) H _ (inv_start S hr.hd e0 hl rel x) hq) (fun fl s' hs => ?_) fun e s' hs => hs)⟩
  match fl, hs with
  | .ret u, ⟨v, σ', H', J, rv, q⟩ => exact ⟨v, H', J.os, J.bare, J.base, J.hok, rv, q⟩
  | .next, ⟨σ', H', J, q⟩ => exact ⟨.non, H', J.os, J.bare, J.base, J.hok, rfl, q⟩
  | .brk, ⟨_, _, _, q⟩ => exact q.elim
  | .cont, ⟨_, _, _, q⟩ => exact q.elim
end
section
variable {X : Cx} {CX : CXT} {k : Nat} {f : Addr} {fd : FuncData} {ps : List Str} {sp : Sp} {x : Str} {p pos : Pos} {e : Expr} {es : List Expr} {t : TA}
theorem pe_gcall {nm : Str} {st : Stmt} (D : Fn X.K X.mg nm st ps) {j : Nat} (G : FnOkG X.prog X.w X.K X.mg X.base CX0 j D.f D.fd ps sp) (hg0 : X.A.guards = some []) (hr : Room k X.A) (ha : PA X (e :: es) t)
    (hk : j ≤ k := by decide) (hg : Gl X nm := by rfl) (hdb : (nm == ("__debug__" : Str)) = false := by decide) (he : starEach (e :: es) X.env = (false, eval e X.env) :: starEach es X.env := by rfl) (hpl : (backTo pos (starEach es X.env)).any (·.1) = false := by rfl) :
    PE X (.Call (.Name nm p) (e :: es) [] pos) (tCall sp [] (fun _ _ _ => False) t) := by
  refine ⟨fun pins s σ H Q I h => wpAny_Call_Name_kw (ld_glob I hg D.m ?_ hdb)⟩
  refine PySem.W.callWith_K (h₀ := X.base) I.ok.mod.kin D.F.kp (thn (ha.run pos pins s σ H _ I h) fun us s1 ⟨vs, H1, I1, rel, q⟩ => ⟨I1.kIn, ?_⟩) he hpl
  have r2 : Vals (vs ++ []) (us ++ []) := rel.append .nil
  have hl : (us ++ []).length = ps.length := by rw [← r2.length]; exact G.len _ _ _ _ q
  refine wpAny_call (codeAny_mono (G.run hg0 (hr.mono hk) I1.env0 (D.b s1 us I1.kIn hl) r2 q) fun r s' hq => ?_)
  match r, hq with
  | .error e, hq => exact hq.elim
  | .ok (.ret u), hq => exact I1.after hq
  | .ok .next, hq => exact hq.elim
  | .ok .brk, hq => exact hq.elim
  | .ok .cont, hq => exact hq.elim
end
end NV
/-! EndG -/
set_option Elab.async false
set_option linter.all false
set_option maxRecDepth 100000
set_option maxHeartbeats 1000000
/-! the end of a law whose defs ask that no repr be under way -/
namespace NV
open PySem PySem.Spec PyProof.Rows L2
open Classical in
/-- what is tracked at the law's entry: the tables T, and the script where it is no written object -/
noncomputable def entryHp (T : List Addr) (a : Addr) (free : Prop) (u : HO) : Hp := fun b => if b ∈ T then some (.tbl #[]) else if b = a ∧ free then some u else none
section
variable {P : Program} {w : World} {K : PySem.W.Frag} {mg mb : Str → Option Value}
theorem law_callG {CX : CXT} {k : Nat} {fa a : Addr} {cs : List (Addr × Addr)} {fd : FuncData} {x : Str} {sp : Sp} {s : Shared} {vs : List Value} {ns : List Int}
    (KX : K.In s.heap) (glob : s.heap.Ns mainGlobals mg) (blt : s.heap.Ns builtinsNs mb) (boot : ∀ x : Str, x ≠ "__name__" → mb x = bootBuiltins x) (lim : s.heap.NoLimit) (gens : s.gens = #[])
    (tab : ∀ p ∈ cs, s.heap.get? p.2 = some { cls := .none, data := .fields #[] }) (unwr : ∀ p ∈ cs, K.lookup p.2 = none) (code : ∀ p ∈ cs, PySem.W.CodeHd s.heap p.1 p.2)
    (bmod : ∃ (bm : Addr) (ob : Obj), mg "__builtins__" = some (.ref bm) ∧ bm ≠ builtinsNs ∧ s.heap.get? bm = some ob ∧ ob.cls = .type "module" ∧ ob.dict = some builtinsNs ∧ ob.data = .plain)
    (obj : s.heap.get? a = some { cls := .type "list", data := .seq vs.toArray }) (nums : IntsAre vs ns) (few : ns.length ≤ sizeLine) (room : Room k callerA)
    (F : ∀ base : Heap, K.In base → base.Ns mainGlobals mg → (∀ p ∈ cs, LamX.TabB base mg p.1 p.2) → FnOkG P w K mg base CX k fa fd [x] sp) (binds : ∀ (s : Shared) (u : Value), BindsTo s fd ⟨[u], []⟩ [(x, u)])
    (promise : ∀ H : Hp, (∀ p ∈ cs, H p.2 = some (.tbl #[])) → SqL K H a (ns.map V.int) → sp [.ref a] H (fun v _ => v = .bl true) fun _ _ _ => False)
    (noX : ∀ H e s', CX [] H s (fun _ _ _ => False) e s' → False) :
    codeAny (model P w) callerA (.call (.ref fa) ⟨[.ref a], []⟩) (fun r s' => r = .ok (.ret (.bool true)) ∧ OldK s.heap s'.heap ∧ s'.os = s.os ∧ AllBare s'.gens) s := by
  have rv := vals_ints nums
  have lenV := nums.length
  generalize hT : cs.map (·.2) = T
  have inT : ∀ p ∈ cs, p.2 ∈ T := fun p hp => by rw [← hT]; exact List.mem_map.mpr ⟨p, hp, rfl⟩
  have tabT : ∀ b ∈ T, s.heap.get? b = some { cls := .none, data := .fields #[] } ∧ K.lookup b = none := fun b hb => by
    rw [← hT] at hb
    obtain ⟨p, hp, rfl⟩ := List.mem_map.mp hb
    exact ⟨tab p hp, unwr p hp⟩
  have aT : a ∉ T := fun z => by
    have q := (tabT a z).1
    rw [obj] at q
    cases q
  generalize hu : HO.frz { cls := .type "list", data := .seq vs.toArray } (.lst (ns.map V.int)) = u
  generalize hH : entryHp T a (K.lookup a = none) u = H
  have at_T : ∀ b ∈ T, H b = some (.tbl #[]) := fun b hb => by rw [← hH]; exact if_pos hb
  have on_a : ∀ b, b ∉ T → b = a ∧ K.lookup a = none → H b = some u := fun b hb c => by
    rw [← hH]
    exact (if_neg hb).trans (if_pos c)
  have off_a : ∀ b, b ∉ T → ¬ (b = a ∧ K.lookup a = none) → H b = none := fun b hb c => by
    rw [← hH]
    exact (if_neg hb).trans (if_neg c)
  -- nothing tracked is a dict, a module, a code object
  have clear : ∀ {b : Addr} {o : Obj}, s.heap.get? b = some o → (∀ vs n, o.data ≠ .seq vs n) → o.data ≠ .fields #[] → H b = none := fun {b o} e h1 h2 => by
    by_cases hb : b ∈ T
    · have q := (tabT b hb).1
      rw [e] at q
      cases q
      exact (h2 rfl).elim
    · refine off_a b hb ?_
      rintro ⟨rfl, _⟩
      rw [obj] at e
      cases e
      exact h1 _ _ rfl
  have keepB : ∀ {b : Addr} {o : Obj}, s.heap.get? b = some o → (∀ vs n, o.data ≠ .seq vs n) → o.data ≠ .fields #[] → (hidT s.heap H).get? b = some o := fun e h1 h2 => hidT_get e (clear e h1 h2)
  have keepN : ∀ {b : Addr} {m : Str → Option Value}, s.heap.Ns b m → (hidT s.heap H).Ns b m := fun {b m} ⟨o, es, ep, e, d, r⟩ => ⟨o, es, ep, keepB e (by rw [d]; exact fun _ _ z => nomatch z) (by rw [d]; exact fun z => nomatch z), d, r⟩
  have KB : K.In (hidT s.heap H) := fun b o e => hidT_get (KX b o e) (by
    have hb : b ∉ T := fun z => by rw [(tabT b z).2] at e; cases e
    refine off_a b hb ?_
    rintro ⟨rfl, z⟩
    rw [z] at e
    cases e)
  have hok : HOk P w H s.heap := fun b o z => by
    by_cases hb : b ∈ T
    · rw [at_T b hb] at z
      cases z
      exact (tabT b hb).1
    · by_cases c : b = a ∧ K.lookup a = none
      · rw [on_a b hb c, ← hu] at z
        cases z
        rw [c.1]
        exact ⟨obj, by rw [List.length_map]; exact few, vs, _, rv, obj⟩
      · rw [off_a b hb c] at z
        cases z
  have seq : SqL K H a (ns.map V.int) := by
    cases hk : K.lookup a with
    | none => exact .inl (.inr ⟨_, by rw [on_a a aT ⟨rfl, hk⟩, ← hu]⟩)
    | some o =>
      have e := KX a o hk
      rw [obj] at e
      cases e
      exact .inr ⟨_, vs.toArray, _, hk, rfl, rfl, rfl, by rw [List.size_toArray, lenV]; exact few, by simpa using rv⟩
  have TB : ∀ p ∈ cs, LamX.TabB (hidT s.heap H) mg p.1 p.2 := fun p hp => by
    refine ⟨?_, ?_, fun z => ?_⟩
    · obtain ⟨o, us, file, tf, flags, tg, inF, text, tt, e1, r1, r2, r3, r4, r5, r6, r7, r8, r9⟩ := code p hp
      refine ⟨o, us, file, tf, flags, tg, inF, text, tt, keepB e1 (by rw [r2]; exact fun _ _ z => nomatch z) (fun z => ?_), r1, r2, r3, r4, r5, r6, r7, r8, r9⟩
      rw [r2] at z
      cases z
      simp at r3
    · obtain ⟨bm, ob, b1, b2, b3, b4, b5, b6⟩ := bmod
      refine ⟨bm, ob, b1, b2, fun q => ?_, fun q => ?_, keepB b3 (by rw [b6]; exact fun _ _ z => nomatch z) (by rw [b6]; exact fun z => nomatch z), b4, b5, b6⟩
      · obtain ⟨o, es, ep, e, hd, _⟩ := glob
        rw [q, e] at b3
        cases b3
        rw [hd] at b6
        cases b6
      · rw [q, tab p hp] at b3
        cases b3
        cases b6
    · obtain ⟨o, es, ep, e, hd, _⟩ := glob
      rw [z, tab p hp] at e
      cases e
      cases hd
  have e0 : Env0 P w K mg (hidT s.heap H) callerA [] s H := ⟨rfl, ⟨KB, keepN glob, ⟨mb, keepN blt, boot⟩, let ⟨mc, h1, h2⟩ := lim; ⟨mc, keepN h1, h2⟩⟩, fun b o e => of_hidT e, Nat.le_of_eq (hidT_size _ _), trivial, fun b hb => absurd (show b ∈ ([] : List Addr) from hb) (by simp), hok, .of_eq gens⟩
  refine codeAny_mono ((F _ KB (keepN glob) TB).run (us := [.ref a]) (vs := [.ref a]) rfl room e0 (binds s (.ref a)) (.cons rfl .nil) (promise H (fun p hp => at_T _ (inT p hp)) seq)) fun r s' h => ?_
  match r, h with
  | .error e, h => exact (noX H e s' h).elim
  | .ok .next, h => exact False.elim h
  | .ok .brk, h => exact False.elim h
  | .ok .cont, h => exact False.elim h
  | .ok (.ret u'), ⟨v, H', os, bare, un, hok', r', q⟩ =>
    obtain rfl : v = .bl true := q
    obtain rfl : u' = Value.bool true := r'
    have old : ∀ b o, b ∉ T → s.heap.get? b = some o → s'.heap.get? b = some o := fun b o nb e => by
      by_cases c : b = a ∧ K.lookup a = none
      · have z : H b = some u := on_a b nb c
        rw [← hu] at z
        have e1 := (hok b _ z).1
        rw [e] at e1
        cases e1
        exact (hok' b _ (un.frzs b _ _ z)).1
      · exact un.keep b o e (off_a b nb c) (by intro z; exact absurd (show b ∈ ([] : List Addr) from z) (by simp)) (by simp)
    have grown : ∀ b ∈ T, ∃ more : Array Value, s'.heap.get? b = some { cls := .none, data := .fields more } := fun b hb => by
      obtain ⟨more, z⟩ := un.tbls b #[] (at_T b hb)
      exact ⟨_, hok' b _ z⟩
    refine ⟨rfl, ⟨fun b o e => ?_, fun b o e => ?_⟩, os, bare⟩
    · by_cases hb : b ∈ T
      · obtain ⟨more, hm⟩ := grown b hb
        rw [← hT] at hb
        obtain ⟨p, hp, rfl⟩ := List.mem_map.mp hb
        rw [tab p hp] at e
        cases e
        exact .inr (.inl ⟨((code p hp).tab (tab p hp)).isCodeTable, rfl, #[], more, rfl, by rw [Array.empty_append]; exact hm⟩)
      · exact .inl (old b o hb e)
    · by_cases hb : b ∈ T
      · obtain ⟨more, hm⟩ := grown b hb
        exact ⟨_, hm⟩
      · exact ⟨o, old b o hb e⟩
end
/-- what is known of the law's promise behind the top -/
def LawG (l : PySem.W.OpenLaw) (w : World) (K : PySem.W.Frag) (CX : CXT) (k n : Nat) (x : Str) (mg : Str → Option Value) (fa : Addr) (h : Heap) : Prop :=
  ∃ (fd : FuncData) (cs : List (Addr × Addr)) (sp : Sp), ((∀ p ∈ cs, h.get? p.2 = some { cls := .none, data := .fields #[] }) ∧ (∀ p ∈ cs, K.lookup p.2 = none) ∧ ∀ p ∈ cs, PySem.W.CodeHd h p.1 p.2) ∧ (∀ (s : Shared) (u : Value), BindsTo s fd ⟨[u], []⟩ [(x, u)]) ∧
    (∀ (H : Hp) (a : Addr) (ns : List Int), ns.length ≤ n → (∀ z ∈ ns, Builtin.Int.intBits z ≤ 1048576) → (∀ p ∈ cs, H p.2 = some (.tbl #[])) → SqL K H a (ns.map V.int) → sp [.ref a] H (fun v _ => v = .bl true) fun _ _ _ => False) ∧
    ∀ base : Heap, K.In base → base.Ns mainGlobals mg → (∀ p ∈ cs, LamX.TabB base mg p.1 p.2) → FnOkG l.prog w K mg base CX k fa fd [x] sp
theorem walk_ofG {l : PySem.W.OpenLaw} {n k : Nat} {q : Program} {loose : List Str} {XP : (Str → Option Value) → Heap → Prop} {YP : World → Heap → Prop} {d : DefRec} {K : Params → PySem.W.Frag} {x : Str}
    (hn : l.most = some n) (hn2 : n ≤ sizeLine) (hdf : d.params.defaults = []) (hr : Room k callerA) (hY : ∀ (w : World) (h : Heap), YP w h → (K w.params).In h)
    (F : ∀ (w : World) (mg : Str → Option Value) (fa : Addr) (h : Heap), YP w h → (K w.params).In h → h.Ns mainGlobals mg → mg d.name = some (.ref fa) → LawG l w (K w.params) CX0 k n x mg fa h) :
    PySem.W.WalkO q loose XP YP l.row.toRowW d [] (fun f vs => PySem.call f vs) := by
  refine Att.attach_callB hn hdf fun w s0 s mg mb fa o pm cd doc a vs ns G Y ho hd hcd hmg hobj hints hlen hbits hg => ?_
  have KX := hY w _ Y
  obtain ⟨fd, cs, sp, ⟨t1, t2, t3⟩, hb, hsp, hF⟩ := F w mg fa _ Y KX G.T.g hmg
  exact law_callG KX G.T.g G.T.b G.T.builtins G.T.nolimit hg t1 t2 t3 G.T.bmain hobj hints (Nat.le_trans hlen hn2) hr hF hb (fun H hH hS => hsp H a ns hlen hbits hH hS) fun H e s' z => z.elim
end NV
/-! EndK -/
set_option Elab.async false
set_option linter.all false
set_option maxRecDepth 100000
set_option maxHeartbeats 600000
/-! what the top has written, name by name -/
namespace NV
open PySem PySem.Spec PyProof.Rows L2
def At (K : PySem.W.Frag) (nm : Str) (st : Stmt) : Prop := ∃ (f : Addr) (oc : Value) (od : Option Addr) (kV doc pm : Value) (an : Option Addr) (cd ct : Value) (sl : Array (Option Value)),
  PySem.W.nsIn K mainGlobals nm = some (some (.ref f)) ∧ K.lookup f = some ⟨oc, od, .func (PySem.W.fnOf nm nm (defArgs st) (defBody st) (defScope st) .none kV doc pm an cd ct), sl⟩ ∧ PySem.W.codeIn K cd nm = true ∧ PySem.W.keepIn K (.ref f) = true
def AtI (K : PySem.W.Frag) (nm : Str) (i : Int) : Prop := ∃ t, PySem.W.nsIn K mainGlobals nm = some (some (.int i t))
def AtS (K : PySem.W.Frag) (nm : Str) (z : Str) : Prop := ∃ t, PySem.W.nsIn K mainGlobals nm = some (some (.str z t))
section
variable {K : PySem.W.Frag} {h : Heap} {mg : Str → Option Value} {nm : Str} {st : Stmt}
theorem at_mk {f : Addr} {oc : Value} {od : Option Addr} {kV doc pm : Value} {an : Option Addr} {cd ct : Value} {sl : Array (Option Value)} (a : PySem.W.nsIn K mainGlobals nm = some (some (.ref f))) (l : K.lookup f = some ⟨oc, od, .func (PySem.W.fnOf nm nm (defArgs st) (defBody st) (defScope st) .none kV doc pm an cd ct), sl⟩)
    (c : PySem.W.codeIn K cd nm = true) (k : PySem.W.keepIn K (.ref f) = true) : At K nm st := ⟨f, oc, od, kV, doc, pm, an, cd, ct, sl, a, l, c, k⟩
theorem atI_mk {i : Int} {t : Tok} (a : PySem.W.nsIn K mainGlobals nm = some (some (.int i t))) : AtI K nm i := ⟨t, a⟩
theorem atS_mk {z : Str} {t : Tok} (a : PySem.W.nsIn K mainGlobals nm = some (some (.str z t))) : AtS K nm z := ⟨t, a⟩
theorem at_int {i : Int} (X : K.In h) (G : h.Ns mainGlobals mg) (a : AtI K nm i) : ∃ u, mg nm = some u ∧ L2.RelV (.int i) u := by
  obtain ⟨t, e⟩ := a
  exact ⟨_, PySem.W.mg_of X G e, t, rfl⟩
theorem at_str {z : Str} (X : K.In h) (G : h.Ns mainGlobals mg) (a : AtS K nm z) : ∃ u, mg nm = some u ∧ L2.RelV (.str z) u := by
  obtain ⟨t, e⟩ := a
  exact ⟨_, PySem.W.mg_of X G e, t, rfl⟩
theorem fn_at {ps : List Str} (X : K.In h) (G : h.Ns mainGlobals mg) (a : At K nm st)
    (hb : ∀ (kV doc pm : Value) (an : Option Addr) (cdv ct : Value) (us : List Value), us.length = ps.length → bindArgs (PySem.W.fnOf nm nm (defArgs st) (defBody st) (defScope st) .none kV doc pm an cdv ct) ⟨us, []⟩ = pure (ps.zip us)) : Nonempty (Fn K mg nm st ps) := by
  obtain ⟨f, oc, od, kV, doc, pm, an, cd, ct, sl, a1, l1, c1, k1⟩ := a
  have F := fun_mk (st := st) l1 c1 k1
  exact ⟨⟨f, _, F, PySem.W.mg_of X G a1, F.binds hb⟩⟩
/-- a call by the one parameter's name -/
theorem kw_binds {x qual : Str} {f : Addr} {fd : FuncData} {ps ks : List Str} (F : Fun K x qual st f fd)
    (hb : ∀ (kV doc pm : Value) (an : Option Addr) (cdv ct : Value) (us ws : List Value), (us ++ ws).length = ps.length → bindArgs (PySem.W.fnOf x qual (defArgs st) (defBody st) (defScope st) .none kV doc pm an cdv ct) ⟨us, ks.zip ws⟩ = pure (ps.zip (us ++ ws))) : KBinds K fd ps ks (· ++ ·) (· ++ ·) := by
  obtain ⟨oc, od, kV, doc, pm, an, cdv, ct, osl, rfl, lk, hcd⟩ := F.ex
  exact ⟨fun s us ws _ hl => .of_eq (hb kV doc pm an cdv ct us ws hl), fun r1 r2 => r1.append r2⟩
theorem law_binds {x qual y : Str} {f : Addr} {fd : FuncData} (F : Fun K x qual st f fd)
    (hb : ∀ (kV doc pm : Value) (an : Option Addr) (cdv ct : Value) (u : Value), bindArgs (PySem.W.fnOf x qual (defArgs st) (defBody st) (defScope st) .none kV doc pm an cdv ct) ⟨[u], []⟩ = pure [(y, u)]) : ∀ (s : Shared) (u : Value), BindsTo s fd ⟨[u], []⟩ [(y, u)] := by
  obtain ⟨oc, od, kV, doc, pm, an, cdv, ct, osl, rfl, lk, hcd⟩ := F.ex
  exact fun s u => .of_eq (hb kV doc pm an cdv ct u)
end
end NV
/-! W1 -/
set_option Elab.async false
set_option linter.all false
set_option maxRecDepth 100000
set_option maxHeartbeats 600000
/-! ways: cost and path; what a pass over the log from its end finds -/
namespace NV
open PySem PySem.Spec PyProof.Rows L2
open PySem.W (dataLt alike alikeAll keyToks keyToksAll)
abbrev Path := List (Str × Str)
abbrev Way := Option (Int × Path)
def stepD (s : Str × Str) : PyData := .tuple [.str s.1, .str s.2]
def pathD (p : Path) : PyData := .tuple (p.map stepD)
def someD (x : Int × Path) : PyData := .tuple [.int x.1, pathD x.2]
def wayD : Way → PyData
  | none => .none
  | some x => someD x
theorem alike_paths : ∀ p q : Path, alikeAll (p.map stepD) (q.map stepD) = true
  | [], _ => by simp only [List.map_nil, alikeAll]
  | _ :: _, [] => by simp only [List.map_cons, List.map_nil, alikeAll]
  | a :: p, b :: q => by
    rw [List.map_cons, List.map_cons, alikeAll, alike_paths p q]
    simp [stepD, alike, alikeAll]
theorem alike_ways (x y : Int × Path) : alike (someD x) (someD y) = true := by
  unfold someD pathD
  simp [alike, alikeAll, alike_paths]
theorem depth_steps : ∀ p : Path, PyData.depthAll (p.map stepD) ≤ 1
  | [] => by simp [PyData.depthAll]
  | a :: p => by
    have ih := depth_steps p
    rw [List.map_cons]
    simp only [PyData.depthAll, stepD, PyData.depth]
    omega
theorem depth_way (x : Int × Path) : (someD x).depth ≤ 3 := by
  have := depth_steps x.2
  unfold someD pathD
  simp only [PyData.depth, PyData.depthAll]
  omega
def wayLt (x y : Int × Path) : Bool := dataLt (someD x) (someD y)
theorem wayLt_ne {x y : Int × Path} (h : x.1 ≠ y.1) : wayLt x y = decide (x.1 < y.1) := by
  unfold wayLt someD
  rw [PySem.W.dataLt_tuple, PySem.W.dataLt_all_no (by simp [alike]) (by simp [PyData.eqv, h]), PySem.W.dataLt_int]
theorem wayLt_yes {x y : Int × Path} (h : wayLt x y = true) : x.1 ≤ y.1 := by
  by_cases e : x.1 = y.1
  · omega
  · rw [wayLt_ne e] at h
    have := of_decide_eq_true h
    omega
theorem wayLt_no {x y : Int × Path} (h : wayLt x y = false) : y.1 ≤ x.1 := by
  by_cases e : x.1 = y.1
  · omega
  · rw [wayLt_ne e] at h
    have := of_decide_eq_false h
    omega
/-- the first of the least -/
def minW : List (Int × Path) → Way
  | [] => none
  | y :: ys => some (ys.foldl (fun a y => if wayLt y a then y else a) y)
theorem minD_way : ∀ (ys : List (Int × Path)) (y : Int × Path), PySem.W.minD (someD y) (ys.map someD) = someD (ys.foldl (fun a y => if wayLt y a then y else a) y)
  | [], _ => rfl
  | z :: ys, y => by
    have e : PySem.W.minD (someD y) ((z :: ys).map someD) = PySem.W.minD (someD (if wayLt z y then z else y)) (ys.map someD) := by
      unfold PySem.W.minD
      rw [List.map_cons, List.foldl_cons]
      congr 1
      show (if wayLt z y = true then someD z else someD y) = _
      split <;> rfl
    rw [e, minD_way ys]
    rfl
/-! ### the pass -/
def Ent.isW : Ent → Bool
  | .wr .. => true
  | .qu .. => false
def Ent.rs : Ent → List Str
  | .wr _ rs _ _ => rs
  | .qu _ cs => cs
def Ent.ws : Ent → List Str
  | .wr _ _ ws _ => ws
  | .qu .. => []
def Ent.pr : Ent → Option Int
  | .wr _ _ _ pr => pr
  | .qu .. => none
/-- the way past a write of this price -/
def past (pr : Option Int) : Way → Way
  | some (k, p) => match pr with
    | some i => some (k + i, p)
    | none => none
  | none => none
def blocked (e : Ent) (o : Str → Way) : Str → Way := fun c => if c ∈ e.ws then past e.pr (o c) else o c
/-- the better of a reading and the way past the reader -/
def better (x : Int × Path) : Way → Way
  | none => some x
  | some y => if wayLt x y then some x else some y
def readers (e : Ent) (way : Way) (o : Str → Way) : Str → Way := fun c => if c ∈ e.rs then
  match way with
  | none => o c
  | some (k, p) => better (k, (e.id, c) :: p) (o c) else o c
def wayFrom (o : Str → Way) (cs : List Str) : Way := minW (cs.filterMap o)
def endW : Str → Way := fun c => some (0, [("", c)])
def stepB (e : Ent) (o : Str → Way) : Str → Way := match e with
  | .wr .. => readers e (wayFrom o e.ws) (blocked e o)
  | .qu .. => readers e (some (0, [])) o
def onB : List Ent → Str → Way
  | [] => endW
  | e :: rest => stepB e (onB rest)
/-- the writes' ways, the last write first -/
def waysB : List Ent → List (Str × Way)
  | [] => []
  | e :: rest => waysB rest ++ (if e.isW then [(e.id, wayFrom (onB rest) e.ws)] else [])
theorem waysB_ids : ∀ es : List Ent, (waysB es).map (·.1) = ((es.filter Ent.isW).map Ent.id).reverse
  | [] => rfl
  | e :: rest => by
    have ih := waysB_ids rest
    unfold waysB
    rw [List.map_append, ih, List.filter_cons]
    cases e.isW <;> simp
/-! ### costs alone -/
abbrev Cost := Option Int
/-- x is at most y and s more -/
def leC (s : Int) (x y : Cost) : Prop := ∀ b, y = some b → ∃ a, x = some a ∧ a ≤ b + s
theorem leC.refl {s : Int} (h : 0 ≤ s) (x : Cost) : leC s x x := fun b e => ⟨b, e, by omega⟩
def costW : Way → Cost := Option.map (·.1)
theorem cost_past {s : Int} {pr : Option Int} {x y : Way} (h : leC s (costW x) (costW y)) : leC s (costW (past pr x)) (costW (past pr y)) := by
  intro b e
  match y, pr, e with
  | some (k, p), some i, e =>
    obtain ⟨a, ha, hab⟩ := h k rfl
    have e : k + i = b := Option.some.inj e
    match x, ha with
    | some (k', p'), ha =>
      have ha : k' = a := Option.some.inj ha
      exact ⟨k' + i, rfl, by omega⟩
/-- past and its own -/
theorem cost_past_self {i : Int} (x : Way) : leC i (costW (past (some i) x)) (costW x) := by
  intro b e
  match x, e with
  | some (k, p), e =>
    have e : k = b := Option.some.inj e
    exact ⟨k + i, rfl, by omega⟩
theorem cost_better (x : Int × Path) (y : Way) : costW (better x y) = match costW y with | none => some x.1 | some b => some (min x.1 b) := by
  match y with
  | none => rfl
  | some y =>
    show costW (if wayLt x y then some x else some y) = some (min x.1 y.1)
    cases h : wayLt x y with
    | true =>
      have := wayLt_yes h
      show some x.1 = _
      rw [Int.min_eq_left this]
    | false =>
      have := wayLt_no h
      show some y.1 = _
      rw [Int.min_eq_right this]
theorem le_better {s : Int} {a b : Int} {p q : Path} {x y : Way} (h1 : a ≤ b + s) (h2 : leC s (costW x) (costW y)) : leC s (costW (better (a, p) x)) (costW (better (b, q) y)) := by
  rw [cost_better, cost_better]
  intro c e
  cases hy : costW y with
  | none =>
    rw [hy] at e
    have e : b = c := Option.some.inj e
    cases hx : costW x with
    | none => exact ⟨a, rfl, by omega⟩
    | some k => exact ⟨min a k, rfl, by omega⟩
  | some j =>
    obtain ⟨k, hk, hkj⟩ := h2 j hy
    rw [hy] at e
    have e : min b j = c := Option.some.inj e
    rw [hk]
    exact ⟨min a k, rfl, by omega⟩
/-- a further reading never makes it dearer -/
theorem better_le {s : Int} (hs : 0 ≤ s) (x : Int × Path) {y z : Way} (h : leC s (costW y) (costW z)) : leC s (costW (better x y)) (costW z) := by
  intro b e
  obtain ⟨a, ha, hab⟩ := h b e
  rw [cost_better, ha]
  exact ⟨min x.1 a, rfl, by omega⟩
theorem fold_least : ∀ (ys : List (Int × Path)) (y : Int × Path), (ys.foldl (fun a y => if wayLt y a then y else a) y).1 ≤ y.1 ∧ (∀ z ∈ ys, (ys.foldl (fun a y => if wayLt y a then y else a) y).1 ≤ z.1) ∧ (ys.foldl (fun a y => if wayLt y a then y else a) y ∈ y :: ys)
  | [], y => ⟨Int.le_refl _, by simp, by simp⟩
  | z :: ys, y => by
    obtain ⟨h1, h2, h3⟩ := fold_least ys (if wayLt z y then z else y)
    rw [List.foldl_cons]
    have lz : (if wayLt z y then z else y).1 ≤ z.1 ∧ (if wayLt z y then z else y).1 ≤ y.1 := by
      cases h : wayLt z y with
      | true => exact ⟨Int.le_refl _, wayLt_yes h⟩
      | false => exact ⟨wayLt_no h, Int.le_refl _⟩
    refine ⟨by omega, fun u hu => ?_, ?_⟩
    · rcases List.mem_cons.mp hu with e | e
      · rw [e]; omega
      · exact h2 u e
    · rcases List.mem_cons.mp h3 with e | e
      · rw [e]
        cases wayLt z y <;> simp
      · exact List.mem_cons_of_mem _ (List.mem_cons_of_mem _ e)
/-- the least is there, and is the least -/
theorem minW_iff (l : List (Int × Path)) : (l = [] → minW l = none) ∧ (l ≠ [] → ∃ m, minW l = some m ∧ m ∈ l ∧ ∀ z ∈ l, m.1 ≤ z.1) := by
  cases l with
  | nil => exact ⟨fun _ => rfl, fun h => absurd rfl h⟩
  | cons y ys =>
    obtain ⟨h1, h2, h3⟩ := fold_least ys y
    refine ⟨(fun h => by cases h), fun _ => ⟨_, rfl, h3, fun z hz => ?_⟩⟩
    rcases List.mem_cons.mp hz with e | e
    · rw [e]; exact h1
    · exact h2 z e
theorem le_from {s : Int} {o o' : Str → Way} {cs : List Str} (h : ∀ c, leC s (costW (o c)) (costW (o' c))) : leC s (costW (wayFrom o cs)) (costW (wayFrom o' cs)) := by
  intro b e
  have hne : cs.filterMap o' ≠ [] := fun z => by
    have q := (minW_iff (cs.filterMap o')).1 z
    unfold wayFrom at e
    rw [q] at e
    cases e
  obtain ⟨m, hm, hmem, _⟩ := (minW_iff (cs.filterMap o')).2 hne
  unfold wayFrom at e
  rw [hm] at e
  have e : m.1 = b := Option.some.inj e
  obtain ⟨c, hc, hoc⟩ := List.mem_filterMap.mp hmem
  obtain ⟨a, ha, hab⟩ := h c m.1 (by rw [hoc]; rfl)
  obtain ⟨w, hw, rfl⟩ : ∃ w, o c = some w ∧ w.1 = a := by
    cases ho : o c with
    | none => rw [ho] at ha; cases ha
    | some w => rw [ho] at ha; exact ⟨w, rfl, Option.some.inj ha⟩
  have hin : w ∈ cs.filterMap o := List.mem_filterMap.mpr ⟨c, hc, hw⟩
  obtain ⟨m', hm', _, hl⟩ := (minW_iff (cs.filterMap o)).2 (fun z => by rw [z] at hin; cases hin)
  refine ⟨m'.1, by unfold wayFrom; rw [hm']; rfl, ?_⟩
  have := hl w hin
  omega
/-- cheaper ways on make cheaper ways -/
theorem le_step {s : Int} (hs : 0 ≤ s) (e : Ent) {o o' : Str → Way} (h : ∀ c, leC s (costW (o c)) (costW (o' c))) : ∀ c, leC s (costW (stepB e o c)) (costW (stepB e o' c)) := by
  have reads : ∀ (w w' : Way) (u u' : Str → Way), leC s (costW w) (costW w') → (∀ c, leC s (costW (u c)) (costW (u' c))) → ∀ c, leC s (costW (readers e w u c)) (costW (readers e w' u' c)) := by
    intro w w' u u' hw hu c
    unfold readers
    by_cases hc : c ∈ e.rs
    · rw [if_pos hc, if_pos hc]
      match w', w, hw with
      | none, none, _ => exact hu c
      | none, some (k, p), _ => exact better_le hs _ (hu c)
      | some (k', p'), some (k, p), hw =>
        obtain ⟨a, ha, hab⟩ := hw k' rfl
        have ha : k = a := Option.some.inj ha
        exact le_better (by omega) (hu c)
      | some (k', p'), none, hw =>
        obtain ⟨a, ha, _⟩ := hw k' rfl
        cases ha
    · rw [if_neg hc, if_neg hc]
      exact hu c
  match e with
  | .wr id rs ws pr =>
    refine reads _ _ _ _ (le_from h) fun c => ?_
    unfold blocked
    by_cases hc : c ∈ (Ent.wr id rs ws pr).ws
    · rw [if_pos hc, if_pos hc]
      exact cost_past (h c)
    · rw [if_neg hc, if_neg hc]
      exact h c
  | .qu id cs => exact reads (some (0, [])) (some (0, [])) o o' (leC.refl hs _) h
theorem le_pre {s : Int} (hs : 0 ≤ s) {es es' : List Ent} (h : ∀ c, leC s (costW (onB es c)) (costW (onB es' c))) : ∀ pre : List Ent, ∀ c, leC s (costW (onB (pre ++ es) c)) (costW (onB (pre ++ es') c))
  | [] => h
  | e :: pre => le_step hs e (le_pre hs h pre)
/-! ### the costs of the writes, in log order -/
def costsL : List Ent → List (Str × Cost)
  | [] => []
  | e :: rest => (if e.isW then [(e.id, costW (wayFrom (onB rest) e.ws))] else []) ++ costsL rest
theorem costsL_ways : ∀ es : List Ent, costsL es = ((waysB es).map fun x => (x.1, costW x.2)).reverse
  | [] => rfl
  | e :: rest => by
    have ih := costsL_ways rest
    unfold costsL waysB
    rw [ih, List.map_append, List.reverse_append]
    cases e.isW <;> simp
theorem costsL_names : ∀ es : List Ent, (costsL es).map (·.1) = (es.filter Ent.isW).map Ent.id
  | [] => rfl
  | e :: rest => by
    have ih := costsL_names rest
    unfold costsL
    rw [List.map_append, ih, List.filter_cons]
    cases e.isW <;> simp
/-- after's costs are before's, or lower by no more than s: what _law_rises asks -/
def rises (before after : List (Str × Cost)) (s : Int) : Prop := ∀ n x y, (n, x) ∈ before → (n, y) ∈ after → leC s x y
theorem costs_pre {s : Int} (hs : 0 ≤ s) {es es' : List Ent} (h : ∀ c, leC s (costW (onB es c)) (costW (onB es' c))) (own : rises (costsL es) (costsL es') s) : ∀ pre : List Ent, ((pre ++ es).map Ent.id).Nodup → ((pre ++ es').map Ent.id).Nodup → rises (costsL (pre ++ es)) (costsL (pre ++ es')) s
  | [], _, _ => own
  | e :: pre, nd, nd' => by
    have nd2 := List.nodup_cons.mp nd
    have nd2' := List.nodup_cons.mp nd'
    have ih := costs_pre hs h own pre nd2.2 nd2'.2
    have names : ∀ (l : List Ent) n x, (n, x) ∈ costsL l → n ∈ l.map Ent.id := fun l n x hx => by
      have : n ∈ (costsL l).map (·.1) := List.mem_map.mpr ⟨_, hx, rfl⟩
      rw [costsL_names] at this
      obtain ⟨u, hu, rfl⟩ := List.mem_map.mp this
      exact List.mem_map.mpr ⟨u, (List.mem_filter.mp hu).1, rfl⟩
    intro n x y hx hy
    have hx : (n, x) ∈ (if e.isW then [(e.id, costW (wayFrom (onB (pre ++ es)) e.ws))] else []) ++ costsL (pre ++ es) := hx
    have hy : (n, y) ∈ (if e.isW then [(e.id, costW (wayFrom (onB (pre ++ es')) e.ws))] else []) ++ costsL (pre ++ es') := hy
    rcases List.mem_append.mp hx with hx | hx
    · cases hw : e.isW with
      | false => rw [hw] at hx; cases hx
      | true =>
        rw [hw] at hx hy
        simp only [if_true, List.mem_singleton, Prod.mk.injEq] at hx
        rcases List.mem_append.mp hy with hy | hy
        · simp only [if_true, List.mem_singleton, Prod.mk.injEq] at hy
          rw [hx.2, hy.2]
          exact le_from (le_pre hs h pre)
        · exact absurd (by rw [← hx.1]; exact names _ _ _ hy) nd2'.1
    · rcases List.mem_append.mp hy with hy | hy
      · cases hw : e.isW with
        | false => rw [hw] at hy; cases hy
        | true =>
          rw [hw] at hy
          simp only [if_true, List.mem_singleton, Prod.mk.injEq] at hy
          exact absurd (by rw [← hy.1]; exact names _ _ _ hx) nd2.1
      · exact ih n x y hx hy
theorem rises_self {s : Int} (hs : 0 ≤ s) {es : List Ent} (nd : (es.map Ent.id).Nodup) : rises (costsL es) (costsL es) s := by
  intro n x y hx hy
  have names : ((costsL es).map (·.1)).Nodup := by
    rw [costsL_names]
    exact nd.sublist (List.filter_sublist.map _)
  have e : x = y := by
    clear nd hs
    generalize costsL es = l at names hx hy
    induction l with
    | nil => cases hx
    | cons z l ih =>
      rw [List.map_cons] at names
      have nn := List.nodup_cons.mp names
      rcases List.mem_cons.mp hx with a | a <;> rcases List.mem_cons.mp hy with b | b
      · rw [← a] at b
        exact (Prod.mk.inj b).2.symm
      · exact absurd (List.mem_map.mpr ⟨_, b, by rw [← a]⟩) nn.1
      · exact absurd (List.mem_map.mpr ⟨_, a, by rw [← b]⟩) nn.1
      · exact ih nn.2 a b
  rw [e]
  exact leC.refl hs y
end NV
/-! T1 -/
set_option Elab.async false
set_option linter.all false
set_option maxRecDepth 100000
set_option maxHeartbeats 600000
/-! what a target depends on: backwards through the log, and by the last writers -/
namespace NV
open PySem PySem.Spec PyProof.Rows L2
abbrev Row := Str × Str × Option Str
/-! ### backwards, as the package does -/
def openIn (e : Ent) (r : Row) : Bool := r.2.2.isNone && decide (r.2.1 ∈ e.ws)
def closeR (e : Ent) (r : Row) : Row := if openIn e r then (r.1, r.2.1, some e.id) else r
def stepT (e : Ent) (rows : List Row) : List Row := if rows.any (openIn e) then rows.map (closeR e) ++ e.rs.map (fun c => (e.id, c, none)) else rows
/-! ### by the last writers -/
def wr (es : List Ent) (n : Nat) (c : Str) : Bool := match es[n]? with
  | some e => decide (c ∈ e.ws)
  | none => false
/-- the last before n that writes the cell -/
def lastIx (es : List Ent) : Nat → Str → Option Nat
  | 0, _ => none
  | n + 1, c => if wr es n c then some n else lastIx es n c
theorem lastIx_lt {es : List Ent} {c : Str} : ∀ {n j : Nat}, lastIx es n c = some j → j < n ∧ wr es j c = true
  | n + 1, j, h => by
    unfold lastIx at h
    cases hw : wr es n c with
    | true =>
      rw [hw, if_pos rfl] at h
      obtain rfl := Option.some.inj h
      exact ⟨Nat.lt_succ_self _, hw⟩
    | false =>
      rw [hw, if_neg Bool.false_ne_true] at h
      obtain ⟨h1, h2⟩ := lastIx_lt h
      exact ⟨by omega, h2⟩
theorem lastIx_ge {es : List Ent} {c : Str} {p : Nat} (hw : wr es p c = true) : ∀ {n : Nat}, p < n → ∃ j, lastIx es n c = some j ∧ p ≤ j
  | n + 1, h => by
    unfold lastIx
    cases hn : wr es n c with
    | true => exact ⟨n, by rw [if_pos rfl], by omega⟩
    | false =>
      rw [if_neg Bool.false_ne_true]
      have : p ≠ n := fun z => by rw [z, hn] at hw; cases hw
      exact lastIx_ge hw (by omega)
def nameAt (es : List Ent) (j : Nat) : Str := match es[j]? with
  | some e => e.id
  | none => ""
/-- a source that is found from p on -/
def shown (es : List Ent) (p : Nat) : Option Nat → Option Str
  | some j => if p ≤ j then some (nameAt es j) else none
  | none => none
theorem shown_yes {es : List Ent} {p j : Nat} (h : p ≤ j) : shown es p (some j) = some (nameAt es j) := if_pos h
theorem shown_no {es : List Ent} {p j : Nat} (h : ¬ p ≤ j) : shown es p (some j) = none := if_neg h
/-- a row told by place: who reads, what, from which position -/
abbrev Ask := Str × Str × Nat
def rowA (es : List Ent) (p : Nat) (q : Ask) : Row := (q.1, q.2.1, shown es p (lastIx es q.2.2 q.2.1))
def asksAt (es : List Ent) (i : Nat) : List Ask := match es[i]? with
  | some e => e.rs.map fun c => (e.id, c, i)
  | none => []
def hits (es : List Ent) (p : Nat) (qs : List Ask) : Bool := qs.any fun q => decide (lastIx es q.2.2 q.2.1 = some p)
/-- what is asked when all from p on is read -/
def asks (es : List Ent) (q : Ask) : Nat → List Ask
  | 0 => [q]
  | n + 1 => if hits es (q.2.2 - (n + 1)) (asks es q n) then asks es q n ++ asksAt es (q.2.2 - (n + 1)) else asks es q n
def backN (es : List Ent) (k : Nat) (row : Row) : Nat → List Row
  | 0 => [row]
  | n + 1 => match es[k - (n + 1)]? with
    | some e => stepT e (backN es k row n)
    | none => backN es k row n
theorem asks_pos {es : List Ent} {q : Ask} : ∀ {n : Nat}, n ≤ q.2.2 → ∀ r ∈ asks es q n, q.2.2 - n ≤ r.2.2
  | 0, _, r, h => by
    rw [List.mem_singleton.mp h]
    omega
  | n + 1, hn, r, h => by
    unfold asks at h
    by_cases hh : hits es (q.2.2 - (n + 1)) (asks es q n) = true
    · rw [if_pos hh] at h
      rcases List.mem_append.mp h with z | z
      · have := asks_pos (n := n) (by omega) r z
        omega
      · unfold asksAt at z
        cases he : es[q.2.2 - (n + 1)]? with
        | none => rw [he] at z; cases z
        | some e =>
          rw [he] at z
          obtain ⟨c, _, rfl⟩ := List.mem_map.mp z
          exact Nat.le_refl _
    · rw [if_neg hh] at h
      have := asks_pos (n := n) (by omega) r h
      omega
/-- one row, one entry further back -/
theorem open_iff {es : List Ent} {p : Nat} {e : Ent} {q : Ask} (he : es[p]? = some e) (hq : p < q.2.2) : openIn e (rowA es (p + 1) q) = decide (lastIx es q.2.2 q.2.1 = some p) := by
  have hw : wr es p q.2.1 = decide (q.2.1 ∈ e.ws) := by
    unfold wr
    rw [he]
  unfold openIn rowA
  dsimp only
  cases hl : lastIx es q.2.2 q.2.1 with
  | none =>
    have : decide (q.2.1 ∈ e.ws) = false := by
      rw [← hw]
      cases h : wr es p q.2.1 with
      | false => rfl
      | true =>
        obtain ⟨j, hj, _⟩ := lastIx_ge h hq
        rw [hl] at hj; cases hj
    rw [this, Bool.and_false]
    rfl
  | some j =>
    obtain ⟨_, hj⟩ := lastIx_lt hl
    by_cases h : p + 1 ≤ j
    · rw [shown_yes h]
      have : ¬ (some j = some p) := fun z => by have := Option.some.inj z; omega
      rw [decide_eq_false this]
      rfl
    · rw [shown_no h]
      by_cases hjp : j = p
      · subst hjp
        rw [← hw, hj, decide_eq_true (rfl : some j = some j)]
        rfl
      · have : decide (q.2.1 ∈ e.ws) = false := by
          rw [← hw]
          cases hx : wr es p q.2.1 with
          | false => rfl
          | true =>
            obtain ⟨j', hj', le⟩ := lastIx_ge hx hq
            rw [hl] at hj'
            have := Option.some.inj hj'
            omega
        rw [this, Bool.and_false, decide_eq_false (fun z => hjp (Option.some.inj z))]
theorem close_row {es : List Ent} {p : Nat} {e : Ent} {q : Ask} (he : es[p]? = some e) (hq : p < q.2.2) : closeR e (rowA es (p + 1) q) = rowA es p q := by
  unfold closeR
  rw [open_iff he hq]
  unfold rowA
  cases hl : lastIx es q.2.2 q.2.1 with
  | none => rw [decide_eq_false (by simp), if_neg Bool.false_ne_true]; rfl
  | some j =>
    by_cases hj : j = p
    · subst hj
      rw [decide_eq_true rfl, if_pos rfl]
      rw [shown_yes (Nat.le_refl _)]
      unfold nameAt
      rw [he]
    · rw [decide_eq_false (fun z => hj (Option.some.inj z)), if_neg Bool.false_ne_true]
      by_cases h : p + 1 ≤ j
      · rw [shown_yes h, shown_yes (by omega)]
      · rw [shown_no h, shown_no (by omega)]
/-- the package's rows are those of the last writers -/
theorem back_asks {es : List Ent} {q : Ask} (hk : q.2.2 ≤ es.length) : ∀ n, n ≤ q.2.2 → backN es q.2.2 (q.1, q.2.1, none) n = (asks es q n).map (rowA es (q.2.2 - n))
  | 0, _ => by
    show [(q.1, q.2.1, none)] = [rowA es (q.2.2 - 0) q]
    unfold rowA
    cases hl : lastIx es q.2.2 q.2.1 with
    | none => rfl
    | some j =>
      have := (lastIx_lt hl).1
      rw [shown_no (by omega)]
  | n + 1, hn => by
    have ih := back_asks hk n (by omega)
    obtain ⟨e, he⟩ : ∃ e, es[q.2.2 - (n + 1)]? = some e := ⟨_, List.getElem?_eq_getElem (by omega)⟩
    have hp : q.2.2 - n = q.2.2 - (n + 1) + 1 := by omega
    have pos : ∀ r ∈ asks es q n, q.2.2 - (n + 1) < r.2.2 := fun r hr => by
      have := asks_pos (n := n) (by omega) r hr
      omega
    show (match es[q.2.2 - (n + 1)]? with | some e => stepT e (backN es q.2.2 (q.1, q.2.1, none) n) | none => backN es q.2.2 (q.1, q.2.1, none) n) = _
    rw [he]
    dsimp only
    rw [ih, hp]
    have hany : ((asks es q n).map (rowA es (q.2.2 - (n + 1) + 1))).any (openIn e) = hits es (q.2.2 - (n + 1)) (asks es q n) := by
      unfold hits
      rw [List.any_map]
      apply Bool.eq_iff_iff.mpr
      rw [List.any_eq_true, List.any_eq_true]
      constructor
      · rintro ⟨r, hr, h⟩
        exact ⟨r, hr, by rw [← open_iff he (pos r hr)]; exact h⟩
      · rintro ⟨r, hr, h⟩
        exact ⟨r, hr, by show openIn e (rowA es _ r) = true; rw [open_iff he (pos r hr)]; exact h⟩
    have hmap : ((asks es q n).map (rowA es (q.2.2 - (n + 1) + 1))).map (closeR e) = (asks es q n).map (rowA es (q.2.2 - (n + 1))) := by
      rw [List.map_map]
      exact List.map_congr_left fun r hr => close_row he (pos r hr)
    unfold stepT
    rw [hany]
    show _ = (if hits es (q.2.2 - (n + 1)) (asks es q n) then asks es q n ++ asksAt es (q.2.2 - (n + 1)) else asks es q n).map (rowA es (q.2.2 - (n + 1)))
    by_cases hh : hits es (q.2.2 - (n + 1)) (asks es q n) = true
    · rw [if_pos hh, if_pos hh, List.map_append, hmap]
      congr 1
      unfold asksAt
      rw [he]
      dsimp only
      rw [List.map_map]
      refine List.map_congr_left fun c _ => ?_
      show ((e.id, c, none) : Row) = (e.id, c, shown es (q.2.2 - (n + 1)) (lastIx es (q.2.2 - (n + 1)) c))
      cases hl : lastIx es (q.2.2 - (n + 1)) c with
      | none => rfl
      | some j =>
        have := (lastIx_lt hl).1
        rw [shown_no (by omega)]
    · rw [if_neg hh, if_neg hh]
      refine List.map_congr_left fun r hr => ?_
      rw [← close_row he (pos r hr)]
      have no : openIn e (rowA es (q.2.2 - (n + 1) + 1) r) = false := by
        rw [open_iff he (pos r hr)]
        cases hd : decide (lastIx es r.2.2 r.2.1 = some (q.2.2 - (n + 1))) with
        | false => rfl
        | true => exact absurd (List.any_eq_true.mpr ⟨r, hr, hd⟩) hh
      unfold closeR
      rw [no, if_neg Bool.false_ne_true]
end NV
/-! D10 -/
set_option Elab.async false
set_option linter.all false
set_option maxRecDepth 100000
set_option maxHeartbeats 400000
namespace NV
open PySem PySem.Spec PyProof.Rows L2
open C8 (pss_cut)
theorem tup_kind {H : Hp} {a b : Addr} {xs : List V} {o : HO} (h : H a = some (.tup xs)) (h' : H b = some o) (n : ∀ ys, o ≠ .tup ys) : a ≠ b := fun e => by
  rw [e, h'] at h
  exact n xs (Option.some.inj h)
/-- pick of [1, 1, 2, 3] -/
theorem pick_most {j : Nat} {v : V} (h : ([V.int 1, V.int 1, V.int 2, V.int 3] : List V)[j]? = some v) : ∃ m : Nat, v = .int m ∧ 1 ≤ m ∧ m ≤ 3 := by
  match j, h with
  | 0, h => exact ⟨1, (Option.some.inj h).symm, by decide, by decide⟩
  | 1, h => exact ⟨1, (Option.some.inj h).symm, by decide, by decide⟩
  | 2, h => exact ⟨2, (Option.some.inj h).symm, by decide, by decide⟩
  | 3, h => exact ⟨3, (Option.some.inj h).symm, by decide, by decide⟩
  | j + 4, h => simp at h
theorem strs_rp {ex : List Addr} {H : Hp} {p : Addr} {zs : List Str} (hp : p ∉ ex) (h : H p = some (.tup (zs.map V.str))) : Rp ex H (.tuple (zs.map .str)) (.ref p) := ⟨p, _, rfl, hp, h, RpAll.strs zs⟩

abbrev sLawLog : Stmt := topS 55
theorem scLawLog : FnScope ["draw", "many", "cells", "found", "name", "reads", "writes"] ["draw", "many", "cells"] (defScope sLawLog) := ⟨rfl, rfl, rfl, by decide +kernel, rfl, by decide +kernel, by decide +kernel⟩
/-- a log that is drawn; whose words its ids and cells are -/
def spLogF (K : PySem.W.Frag) : Sp := fun vs H Q _ => ∃ (D : Dr) (n many : Nat) (c : Addr) (zs : List Str) (ex : List Addr), vs = [.ref D.d, .int many, .ref c] ∧ many ≤ 62 ∧ H c = some (.lst (zs.map V.str)) ∧ c ∉ D.all ∧ Asc zs ∧ (∀ z ∈ zs, cellB z = true) ∧ 1 ≤ zs.length ∧ zs.length < 64 ∧
  (∀ b ∈ D.ex, b ∈ ex) ∧ Live ex H ∧ DrAt D (n + (1 + 14 * many)) H ∧
  ∀ (es : List Ent) (p : Addr) (H' : Hp), LogOk es → (∀ e ∈ es, e.id ∈ idAll ∧ ∀ c ∈ e.rs ++ e.ws, c ∈ zs) → es.length = many → Rp ex H' (logD es) (.ref p) → Kp D.ex H H' → DrAt D n H' → Q (.ref p) H'
def spLog (K : PySem.W.Frag) : Sp := fun vs H Q _ => ∃ (D : Dr) (n many : Nat) (c : Addr) (zs : List Str) (ex : List Addr), vs = [.ref D.d, .int many, .ref c] ∧ many ≤ 62 ∧ H c = some (.lst (zs.map V.str)) ∧ c ∉ D.all ∧ Asc zs ∧ (∀ z ∈ zs, cellB z = true) ∧ 1 ≤ zs.length ∧ zs.length < 64 ∧
  (∀ b ∈ D.ex, b ∈ ex) ∧ Live ex H ∧ DrAt D (n + (1 + 14 * many)) H ∧
  ∀ (es : List Ent) (p : Addr) (H' : Hp), LogOk es → es.length = many → Rp ex H' (logD es) (.ref p) → Kp D.ex H H' → DrAt D n H' → Q (.ref p) H'
section
variable {P : Program} {w : World} {K : PySem.W.Frag} {mg : Str → Option Value} {base : Heap}
theorem ok_logF (DLawLog : Fn K mg "_law_log" sLawLog ["draw", "many", "cells"]) (DLawTake : Fn K mg "_law_take" sLawTake ["draw", "size"]) (DLawPick : Fn K mg "_law_pick" sLawPick ["draw", "some"]) (DLawPrice : Fn K mg "_law_price" sLawPrice ["draw"])
    (DLawSome : Fn K mg "_law_some" sLawSome ["draw", "things", "least", "most"]) (DLawIds : Fn K mg "_law_ids" sLawIds ["draw", "many"]) (b_tuple : mg "tuple" = none)
    (GLawTake : FnOk P w K mg base CX0 2 DLawTake.f DLawTake.fd ["draw", "size"] spTake) (GLawPick : FnOk P w K mg base CX0 3 DLawPick.f DLawPick.fd ["draw", "some"] (spPick K)) (GLawPrice : FnOk P w K mg base CX0 4 DLawPrice.f DLawPrice.fd ["draw"] spPrice)
    (GLawSome : FnOk P w K mg base CX0 3 DLawSome.f DLawSome.fd ["draw", "things", "least", "most"] (spSome K)) (GLawIds : FnOk P w K mg base CX0 3 DLawIds.f DLawIds.fd ["draw", "many"] spIds) :
    FnOk P w K mg base CX0 5 DLawLog.f DLawLog.fd ["draw", "many", "cells"] (spLogF K) := by
  refine DLawLog.F.ok scLawLog (fun vs H Q E h => ?_) (fun cdv A outer s H vs Q E hr h => ?_)
  · obtain ⟨D, n, many, c, zs, ex, rfl, _⟩ := h
    rfl
  obtain ⟨D, n, many, c, zs, ex, rfl, hm, hS, hc, hasc, hcell, hz1, hz64, hex, hlive, hD, q⟩ := h
  refine ⟨_, pss_cons (ps_set (i := 3) scLawLog.nd rfl (.inl rfl) (pe_lst pa_nil))
      (pss_cons (ps_for PassesOwn.never rfl (piListE K (pe_fn DLawIds GLawIds hr (pa_cons (pv 0) (pa_cons (pv 1) pa_nil)))) (pg_name (i := 4) scLawLog.nd rfl (.inl rfl))
      (pss_one (ps_if (pt_cmpR op_eq (pe_fn DLawTake GLawTake hr (pa_cons (pv 0) (pa_cons pe_int pa_nil))) pe_int (nomark _))
      (pss_one (ps_expr (bmE K PySem.F.plainAttrs_list PySem.F.slot_list_append PySem.F.type_list_append mt_append (pv 3) (pa_cons (pe_tup (pa_cons pe_str (pa_cons (pv 4) (pa_cons (pe_fn DLawSome GLawSome hr (pa_cons (pv 0) (pa_cons (pv 2) (pa_cons pe_int (pa_cons pe_int pa_nil))))) pa_nil)))) pa_nil))))
      (pss_cons (ps_set (i := 5) scLawLog.nd rfl (.inl rfl) (pe_fn DLawSome GLawSome hr (pa_cons (pv 0) (pa_cons (pv 2) (pa_cons pe_int (pa_cons (pe_fn DLawPick GLawPick hr (pa_cons (pv 0) (pa_cons (pe_lst (pa_cons pe_int (pa_cons pe_int (pa_cons pe_int (pa_cons pe_int pa_nil))))) pa_nil))) pa_nil))))))
      (pss_cons (ps_set (i := 6) scLawLog.nd rfl (.inl rfl) (pe_fn DLawSome GLawSome hr (pa_cons (pv 0) (pa_cons (pv 2) (pa_cons pe_int (pa_cons (pe_fn DLawPick GLawPick hr (pa_cons (pv 0) (pa_cons (pe_lst (pa_cons pe_int (pa_cons pe_int (pa_cons pe_int (pa_cons pe_int pa_nil))))) pa_nil))) pa_nil))))))
      (pss_one (ps_expr (bmE K PySem.F.plainAttrs_list PySem.F.slot_list_append PySem.F.type_list_append mt_append (pv 3) (pa_cons (pe_tup (pa_cons pe_str (pa_cons (pv 4) (pa_cons (pv 5) (pa_cons (pv 6) (pa_cons (pe_fn DLawPrice GLawPrice hr (pa_cons (pv 0) pa_nil)) pa_nil)))))) pa_nil)))))))))
      (pss_one (ps_ret (pe_callTy call_tuple_of (by rfl) b_tuple (by decide +kernel) (pa_cons (pv 3) pa_nil))))), ?_⟩
  -- found = []
  refine ⟨Nat.zero_le _, fun fo hfo => ?_⟩
  have nfo := hD.fresh hfo
  have nfe : fo ∉ ex := hlive.fresh hfo
  have k1 : Kp [] H (upd H fo (.lst [])) := Kp.laid hfo
  have e1 : upd H fo (.lst []) fo = some (.lst []) := upd_same
  have d1 := hD.keep k1
  generalize upd H fo (.lst []) = H1 at k1 e1 d1 ⊢
  -- the ids
  refine ⟨_, rfl, _, rfl, D, n + 13 * many, many, rfl, hm, d1.less (by omega), fun ids pI H2 hids hlen nI eI k2 d2 => ?_⟩
  have k12 : Kp D.ex H H2 := (k1.mono (by simp)).trans k2
  have nIfo : pI ≠ fo := fun z => by rw [z, e1] at nI; cases nI
  have ef2 := k2 _ _ (Dr.sub nfo) e1
  have hS2 := k12 _ _ (Dr.sub hc) hS
  have live2 : Live (fo :: ex) H2 := fun b hb => by
    rcases List.mem_cons.mp hb with z | z
    · rw [z, ef2]; exact fun q => nomatch q
    · exact (hlive.keep k12 d2) b z
  have cfo : c ≠ fo := ne_of_none hS hfo
  refine ⟨pI, rfl, ⟨_, SqL.of eI⟩, for_list (K := K) (a := pI) (xs := ids.map V.str) (fun i σ H' => ∃ (v4 v5 v6 : Option V) (es : List Ent) (xs : List V), σ = [some (.ref D.d), some (.int many), some (.ref c), some (.ref fo), v4, v5, v6] ∧ es.map Ent.id = ids.take i ∧ (∀ e ∈ es, e.Ok ∧ ∀ c ∈ e.rs ++ e.ws, c ∈ zs) ∧
      H' fo = some (.lst xs) ∧ RpAll (fo :: ex) H' (es.map Ent.data) xs ∧ Kp (fo :: D.ex) H2 H' ∧ DrAt D (n + 13 * (many - i)) H') ?_ ?_ ?_ ?_⟩
  · exact ⟨none, none, none, [], [], rfl, rfl, fun e he => by simp at he, ef2, rfl, Kp.refl, d2⟩
  · rintro i σ H' hi ⟨v4, v5, v6, es, xs, rfl, h1, h2, h3, h4, k3, d3⟩
    refine SqL.of (k3 pI _ (fun z => ?_) eI)
    rcases List.mem_cons.mp z with z | z
    · exact nIfo z
    · exact Dr.sub (d1.fresh nI) z
  · rintro i y σ H' hi ⟨v4, v5, v6, es, xs, rfl, h1, h2, h3, h4, k3, d3⟩
    have hi' : i < ids.length := by
      have := (List.getElem?_eq_some_iff.mp hi).1
      rw [List.length_map] at this
      exact this
    have ey : y = .str ids[i] := by
      rw [List.getElem?_map, List.getElem?_eq_getElem hi'] at hi
      exact (Option.some.inj hi).symm
    subst ey
    have hid : idB ids[i] = true := hids.ok _ (List.getElem_mem hi')
    have htk : ids.take (i + 1) = ids.take i ++ [ids[i]] := by rw [List.take_add_one, List.getElem?_eq_getElem hi']; rfl
    have him : i < many := by omega
    have hes : es.length = i := by
      have := congrArg List.length h1
      rw [List.length_map, List.length_take] at this
      omega
    have hxl : xs.length = i := by rw [← h4.len, List.length_map, hes]
    obtain ⟨N, hN⟩ : ∃ N, N = n + 13 * (many - (i + 1)) := ⟨_, rfl⟩
    have d3' : DrAt D (N + 13) H' := d3.less (by omega)
    have kx : ∀ {A B : Hp}, Kp D.ex A B → Kp (fo :: D.ex) A B := fun k => k.mono fun b hb => List.mem_cons_of_mem _ hb
    have sub' : ∀ b ∈ D.ex, b ∈ fo :: ex := fun b hb => List.mem_cons_of_mem _ (hex b hb)
    -- one more entry
    have more : ∀ (e : Ent) (a : Addr) (H4 : Hp) (v5 v6 : Option V), e.id = ids[i] → (e.Ok ∧ ∀ c ∈ e.rs ++ e.ws, c ∈ zs) → Kp D.ex H' H4 → DrAt D N H4 → Rp (fo :: ex) H4 e.data (.ref a) →
        (∃ (v4 v5' v6' : Option V) (es' : List Ent) (xs' : List V), [some (V.ref D.d), some (.int many), some (.ref c), some (.ref fo), some (.str ids[i]), v5, v6] = [some (V.ref D.d), some (.int many), some (.ref c), some (.ref fo), v4, v5', v6'] ∧ es'.map Ent.id = ids.take (i + 1) ∧ (∀ e ∈ es', e.Ok ∧ ∀ c ∈ e.rs ++ e.ws, c ∈ zs) ∧
          (upd H4 fo (.lst (xs ++ [.ref a]))) fo = some (.lst xs') ∧ RpAll (fo :: ex) (upd H4 fo (.lst (xs ++ [.ref a]))) (es'.map Ent.data) xs' ∧ Kp (fo :: D.ex) H2 (upd H4 fo (.lst (xs ++ [.ref a]))) ∧ DrAt D (n + 13 * (many - (i + 1))) (upd H4 fo (.lst (xs ++ [.ref a])))) := by
      intro e a H4 v5 v6 he hok k4 d4 r4
      have kp : Kp (fo :: ex) H4 (upd H4 fo (.lst (xs ++ [.ref a]))) := Kp.put List.mem_cons_self
      have kfe : Kp (fo :: ex) H' H4 := k4.mono sub'
      refine ⟨_, _, _, es ++ [e], xs ++ [.ref a], rfl, ?_, fun e' he' => ?_, upd_same, ?_, (k3.trans (kx k4)).trans (Kp.put List.mem_cons_self), by rw [← hN]; exact d4.upd nfo⟩
      · rw [List.map_append, h1, htk, ← he]; rfl
      · rcases List.mem_append.mp he' with z | z
        · exact h2 e' z
        · rw [List.mem_singleton.mp z]; exact hok
      · rw [List.map_append]
        exact (RpAll.keep (kfe.trans kp) _ _ h4).app (RpAll.one (Rp.keep kp _ _ r4))
    have live3 : Live (fo :: ex) H' := fun b hb => by
      rcases List.mem_cons.mp hb with z | z
      · rw [z, h3]; exact fun q => nomatch q
      · intro q
        have : H2 b ≠ none := live2 b (List.mem_cons_of_mem _ z)
        cases e : H2 b with
        | none => exact this e
        | some o =>
          by_cases w : b ∈ fo :: D.ex
          · rcases List.mem_cons.mp w with w | w
            · rw [w, h3] at q; cases q
            · exact absurd w (Dr.sub (d3.fresh q))
          · rw [k3 b o w e] at q; cases q
    have hcS : H' c = some (.lst (zs.map V.str)) := k3 c _ (fun z => by
      rcases List.mem_cons.mp z with z | z
      · exact cfo z
      · exact Dr.sub hc z) hS2
    -- take(draw, 5)
    refine ⟨_, rfl, D, N + 12, 5, rfl, by decide, by decide, d3', fun t H4 t0 t1 k4 d4 => ⟨rfl, _, rfl, ite2 (fun cc => ?_) (fun cc => ?_)⟩⟩
    · -- a query
      have h3' := k4 _ _ (Dr.sub nfo) h3
      refine ⟨_, rfl, .inl ⟨rfl, _, SqL.of h3'⟩, _, rfl, _, rfl, _, rfl, D, N, c, zs, 1, 3, rfl, SqL.of (k4 _ _ (Dr.sub hc) hcS), hc, hz64, by decide, by decide, d4.less (by omega), fun ys p H5 hys hya hyl hyh np ep k5 d5 => ?_⟩
      refine ⟨by show 3 ≤ sizeLine; decide, fun a na => ?_⟩
      have live4 := live3.keep k4 d4
      have pfe : p ∉ fo :: ex := live4.fresh np
      have live5 := live4.keep k5 d5
      have afe : a ∉ fo :: ex := live5.fresh na
      have hco : CellsOk 1 ys := ⟨hya hasc.nodup, fun y hy => hcell y (hys y hy), by omega, hyh⟩
      have afo : a ≠ fo := fun z => afe (by rw [z]; exact List.mem_cons_self)
      have h3'' : (upd H5 a (.tup [.str "query", .str ids[i], .ref p])) fo = some (.lst xs) := by rw [upd_ne afo.symm]; exact k5 _ _ (Dr.sub nfo) h3'
      refine ⟨fo, xs, .ref a, rfl, rfl, h3'', small1000 (by omega), ?_⟩
      refine more (.qu ids[i] ys) a _ _ _ rfl ⟨⟨hid, hco⟩, fun c hc => hys c ((List.mem_append.mp hc).elim id fun h => nomatch h)⟩ ((k4.trans k5).trans (Kp.laid na)) (d5.keep (Kp.laid na)) ⟨a, _, rfl, afe, upd_same, _, _, rfl, rfl, _, _, rfl, rfl, _, _, rfl, ?_, rfl⟩
      exact strs_rp pfe (by rw [upd_ne (ne_of_none ep na)]; exact ep)
    · -- a write: what it reads
      refine ⟨_, rfl, _, rfl, _, rfl, by show 4 ≤ sizeLine; decide, fun l1 nl1 => ?_⟩
      have d4a : DrAt D (N + 11 + 1) (upd H4 l1 (.lst [V.int 1, V.int 1, V.int 2, V.int 3])) := d4.keep (Kp.laid nl1)
      refine ⟨D, N + 11, l1, _, rfl, SqL.of upd_same, by show 0 < 4; decide, by show 4 < 1073741824; decide, Dr.sub (d4.fresh nl1), d4a, fun j v H5 hj k5 d5 => ?_⟩
      obtain ⟨m, rfl, m1, m3⟩ := pick_most hj
      have k45 : Kp D.ex H' H5 := k4.trans ((Kp.laid nl1).trans k5)
      refine ⟨D, N + 7, c, zs, 0, m, rfl, SqL.of (k45 _ _ (Dr.sub hc) hcS), hc, hz64, by omega, by omega, d5.less (by omega), fun rs p1 H6 hrs hra hrl hrh np1 ep1 k6 d6 => ?_⟩
      have k46 := k45.trans k6
      have live5 := live3.keep k45 d5
      have p1fe : p1 ∉ fo :: ex := live5.fresh np1
      -- what it writes
      refine ⟨_, rfl, _, rfl, _, rfl, by show 4 ≤ sizeLine; decide, fun l2 nl2 => ?_⟩
      have d6a : DrAt D (N + 6 + 1) (upd H6 l2 (.lst [V.int 1, V.int 1, V.int 2, V.int 3])) := d6.keep (Kp.laid nl2)
      refine ⟨D, N + 6, l2, _, rfl, SqL.of upd_same, by show 0 < 4; decide, by show 4 < 1073741824; decide, Dr.sub (d6.fresh nl2), d6a, fun j2 v2 H7 hj2 k7 d7 => ?_⟩
      obtain ⟨m2, rfl, m21, m23⟩ := pick_most hj2
      have k67 : Kp D.ex H6 H7 := (Kp.laid nl2).trans k7
      have k47 := k46.trans k67
      refine ⟨D, N + 2, c, zs, 1, m2, rfl, SqL.of (k47 _ _ (Dr.sub hc) hcS), hc, hz64, by omega, by omega, d7.less (by omega), fun ws p2 H8 hws hwa hwl hwh np2 ep2 k8 d8 => ?_⟩
      have k48 := k47.trans k8
      have live7 := live3.keep k47 d7
      have p2fe : p2 ∉ fo :: ex := live7.fresh np2
      have h3' := k48 _ _ (Dr.sub nfo) h3
      -- the price, and the entry
      refine ⟨_, rfl, .inl ⟨rfl, _, SqL.of h3'⟩, _, rfl, _, rfl, _, rfl, _, rfl, D, N, rfl, d8, fun pr H9 hpr k9 d9 => ?_⟩
      refine ⟨by show 5 ≤ sizeLine; decide, fun a na => ?_⟩
      have k49 := k48.trans k9
      have live9 := live3.keep k49 d9
      have afe : a ∉ fo :: ex := live9.fresh na
      have afo : a ≠ fo := fun z => afe (by rw [z]; exact List.mem_cons_self)
      have h9 := k9 _ _ (Dr.sub nfo) h3'
      have h3'' : (upd H9 a (.tup [.str "write", .str ids[i], .ref p1, .ref p2, prV pr])) fo = some (.lst xs) := by rw [upd_ne afo.symm]; exact h9
      have e1' := (k67.trans (k8.trans k9)) _ _ (fun z => p1fe (sub' _ z)) ep1
      have e2' := k9 _ _ (fun z => p2fe (sub' _ z)) ep2
      have hcr : CellsOk 0 rs := ⟨hra hasc.nodup, fun y hy => hcell y (hrs y hy), Nat.zero_le _, by omega⟩
      have hcw : CellsOk 1 ws := ⟨hwa hasc.nodup, fun y hy => hcell y (hws y hy), by omega, by omega⟩
      refine ⟨fo, xs, .ref a, rfl, rfl, h3'', small1000 (by omega), ?_⟩
      refine more (.wr ids[i] rs ws pr) a _ _ _ rfl ⟨⟨hid, hcr, hcw, hpr⟩, fun c hc => (List.mem_append.mp hc).elim (hrs c) (hws c)⟩ (k49.trans (Kp.laid na)) (d9.keep (Kp.laid na)) ⟨a, _, rfl, afe, upd_same, _, _, rfl, rfl, _, _, rfl, rfl, _, _, rfl, ?_, _, _, rfl, ?_, _, _, rfl, prV_rp pr, rfl⟩
      · exact strs_rp p1fe (by rw [upd_ne (ne_of_none e1' na)]; exact e1')
      · exact strs_rp p2fe (by rw [upd_ne (ne_of_none e2' na)]; exact e2')
  · rintro σ H' ⟨v4, v5, v6, es, xs, rfl, h1, h2, h3, h4, k3, d3⟩
    rw [List.length_map, hlen, List.take_of_length_le (Nat.le_of_eq hlen)] at h1
    refine ⟨_, rfl, fo, xs, rfl, .inl ⟨SqL.of h3, fun p np => ?_⟩⟩
    have kH : Kp D.ex H H' := ((k12.mono fun b hb => List.mem_cons_of_mem _ hb).trans k3).drop hfo
    have lv := hlive.keep kH d3
    refine q es p _ ⟨fun e he => (h2 e he).1, by rw [h1]; exact hids.nd⟩ (fun e he => ⟨hids.far e.id (by rw [← h1]; exact List.mem_map.mpr ⟨e, he, rfl⟩), (h2 e he).2⟩) ?_ ⟨p, xs, rfl, lv.fresh np, upd_same, ?_⟩ (kH.trans (Kp.laid np)) ((d3.less (by omega)).keep (Kp.laid np))
    · have := congrArg List.length h1
      rw [List.length_map] at this
      omega
    · exact (RpAll.keep (Kp.laid np) _ _ h4).less fun b hb => List.mem_cons_of_mem _ hb
theorem ok_log (DLawLog : Fn K mg "_law_log" sLawLog ["draw", "many", "cells"]) (DLawTake : Fn K mg "_law_take" sLawTake ["draw", "size"]) (DLawPick : Fn K mg "_law_pick" sLawPick ["draw", "some"]) (DLawPrice : Fn K mg "_law_price" sLawPrice ["draw"])
    (DLawSome : Fn K mg "_law_some" sLawSome ["draw", "things", "least", "most"]) (DLawIds : Fn K mg "_law_ids" sLawIds ["draw", "many"]) (b_tuple : mg "tuple" = none)
    (GLawTake : FnOk P w K mg base CX0 2 DLawTake.f DLawTake.fd ["draw", "size"] spTake) (GLawPick : FnOk P w K mg base CX0 3 DLawPick.f DLawPick.fd ["draw", "some"] (spPick K)) (GLawPrice : FnOk P w K mg base CX0 4 DLawPrice.f DLawPrice.fd ["draw"] spPrice)
    (GLawSome : FnOk P w K mg base CX0 3 DLawSome.f DLawSome.fd ["draw", "things", "least", "most"] (spSome K)) (GLawIds : FnOk P w K mg base CX0 3 DLawIds.f DLawIds.fd ["draw", "many"] spIds) :
    FnOk P w K mg base CX0 5 DLawLog.f DLawLog.fd ["draw", "many", "cells"] (spLog K) :=
  (ok_logF DLawLog DLawTake DLawPick DLawPrice DLawSome DLawIds b_tuple GLawTake GLawPick GLawPrice GLawSome GLawIds).imp fun vs H Q E h => by
    obtain ⟨D, n, many, c, zs, ex, h1, h2, h3, h4, h5, h6, h7, h8, h9, h10, h11, q⟩ := h
    exact ⟨D, n, many, c, zs, ex, h1, h2, h3, h4, h5, h6, h7, h8, h9, h10, h11, fun es p H' a _ => q es p H' a⟩
end
end NV
/-! D11 -/
set_option Elab.async false
set_option linter.all false
set_option maxRecDepth 100000
set_option maxHeartbeats 400000
namespace NV
open PySem PySem.Spec PyProof.Rows L2
open C8 (pss_cut)
theorem SqL.upd_new {K : PySem.W.Frag} {H : Hp} {a C : Addr} {xs : List V} {o : HO} (h : SqL K H a xs) (nC : H C = none) : SqL K (upd H C o) a xs := Kp.seqL (ex := []) (Kp.laid nC) (by simp) h
theorem SqL.upd_two {K : PySem.W.Frag} {H : Hp} {a C : Addr} {xs : List V} {o u : HO} (h : SqL K H a xs) (nC : H C = none) : SqL K (upd (upd H C o) C u) a xs := by
  rw [upd_upd]; exact SqL.upd_new h nC
/-- a comprehension over a list whose test and element change nothing -/
theorem lc_pureL {K : PySem.W.Frag} {tt : TT} {te : TE} {i : Nat} {σ : L2.St} {C a : Addr} {xs : List V} {H1 : Hp} {Qd : Hp → Prop} (p : V → Bool) (f : V → V) (hS : SqL K H1 a xs) (nC : H1 C = none) (hz : xs.length < 1000)
    (htt : ∀ (x : V) (H : Hp) (Q : Bool → Hp → Prop), x ∈ xs → SqL K H a xs → Q (p x) H → tt ((wipe σ [i]).set i (some x)) H Q)
    (hte : ∀ (x : V) (H : Hp) (Q : V → Hp → Prop), x ∈ xs → SqL K H a xs → p x = true → Q (f x) H → te ((wipe σ [i]).set i (some x)) H Q) (hd : Qd (upd H1 C (.lst ((xs.filter p).map f)))) :
    ∃ W : Nat → Nat → Hp → Prop, (∃ m, W 0 m (upd H1 C (.lst []))) ∧ ∀ i' m H, W i' m H →
      ((Itl K a).stop i' H ∧ Qd H) ∨ ((Itl K a).go i' H ∧ ∃ Nx : Hp → Prop, (∀ H', Nx H' → ∃ m', m' < m ∧ W (i' + 1) m' H') ∧ ∀ x H', (Itl K a).yld i' H x H' → gName i x (wipe σ [i]) H' fun σ2 H2 => wipe σ2 [i] = wipe σ [i] ∧ tt σ2 H2 fun b H3 =>
        if b = true then te σ2 H3 fun y H4 => ∃ acc, H4 C = some (.lst acc) ∧ acc.length < sizeLine ∧ Nx (upd H4 C (.lst (acc ++ [y]))) else Nx H3) := by
  refine lc_list (K := K) (a := a) (xs := xs) (fun j H' => H' = upd H1 C (.lst (((xs.take j).filter p).map f))) rfl (fun j H' _ e => by rw [e]; exact SqL.upd_new hS nC) (fun j x H' hx e => ?_) (fun H' e => by rw [e, List.take_length]; exact hd)
  subst e
  have hm : x ∈ xs := List.mem_of_getElem? hx
  have htk : xs.take (j + 1) = xs.take j ++ [x] := by rw [List.take_add_one, hx]; rfl
  refine ⟨wipe_again, ?_⟩
  refine htt x _ _ hm (SqL.upd_new hS nC) ?_
  cases hp : p x with
  | true =>
    change te ((wipe σ [i]).set i (some x)) _ _
    refine hte x _ _ hm (SqL.upd_new hS nC) hp ⟨_, upd_same, ?_, ?_⟩
    · have h1 : ((xs.take j).filter p).length ≤ (xs.take j).length := List.length_filter_le _ _
      rw [List.length_take] at h1
      rw [List.length_map]
      exact small1000 (by omega)
    · rw [upd_upd, htk, List.filter_append, List.map_append, List.filter_cons_of_pos hp]
      rfl
  | false =>
    change upd H1 C _ = upd H1 C _
    rw [htk, List.filter_append, List.filter_cons_of_neg (by rw [hp]; exact Bool.false_ne_true)]
    simp
theorem cut_to (xs : List V) (k : Nat) : cutV xs none (some (k : Int)) = xs.take k := by
  unfold cutV
  rw [HT.sIx_none, HT.sIx_nat]
  rw [List.drop_zero, Nat.sub_zero, ← List.take_eq_take_min]
theorem filter_all {α : Type} (l : List α) : l.filter (fun _ => true) = l := by simp
def iAbs : V → V
  | .int i => .int (if i < 0 then -i else i)
  | v => v
def iBig : V → Bool
  | .int i => decide ((10 : Int) ^ 18 ≤ i)
  | _ => false

abbrev sLawBegin : Stmt := topS 47
theorem scLawBegin : FnScope ["script", "items", "item"] ["script"] (defScope sLawBegin) := ⟨rfl, rfl, rfl, by decide +kernel, rfl, by decide +kernel, by decide +kernel⟩
def spBegin (K : PySem.W.Frag) : Sp := fun vs H Q _ => ∃ (a : Addr) (ns : List Int), vs = [.ref a] ∧ SqL K H a (ns.map V.int) ∧ ns.length ≤ 63 ∧ ∀ (D : Dr) (H' : Hp), Kp [] H H' → H D.d = none → H D.l = none → H D.it = none → DrAt D 1000000000 H' → Q (.ref D.d) H'
section
variable {P : Program} {w : World} {K : PySem.W.Frag} {mg : Str → Option Value} {base : Heap}
theorem ok_begin (DLawBegin : Fn K mg "_law_begin" sLawBegin ["script"]) (b_abs : mg "abs" = none) : FnOk P w K mg base CX0 1 DLawBegin.f DLawBegin.fd ["script"] (spBegin K) := by
  refine DLawBegin.F.ok scLawBegin (fun vs H Q E h => ?_) (fun cdv A outer s H vs Q E hr h => ?_)
  · obtain ⟨a, ns, rfl, _⟩ := h
    rfl
  obtain ⟨a, ns, rfl, hS, h63, q⟩ := h
  refine ⟨_, pss_cons (ps_setLc (i := 1) (own := [("item", 2)]) (g := gName 2) (tt := tYes) (by rfl) scLawBegin.nd rfl rfl (sw_true rfl rfl rfl (by decide +kernel)) (piListE K (pe_slice (sllE K) (pv 0) po_none (po_some pe_int))) (blkOk_by (N := ["script", "items", "item"]) (sc := defScope sLawBegin) (by decide +kernel)) (fun _ _ _ _ _ => (pg_name (i := 2) scLawBegin.nd rfl (.inl rfl))) (fun _ _ _ _ _ => pts_nil) (fun _ _ _ _ _ => (pe_callB call_abs (by rfl) b_abs (by decide +kernel) (pa_cons (pv 2) pa_nil))))
      (pss_one (ps_ret (pe_disp (pps_cons pe_str (pe_lc (own := [("item", 2)]) (g := gName 2) (by rfl) scLawBegin.nd (piListE K (pv 1)) (blkOk_by (N := ["script", "items", "item"]) (sc := defScope sLawBegin) (by decide +kernel)) (fun _ _ _ _ _ => (pg_name (i := 2) scLawBegin.nd rfl (.inl rfl))) (fun _ _ _ _ _ => (pts_one (pt_cmpR op_ge (pv 2) (pe_op op_pow pe_int pe_int) (nomark _)))) (fun _ _ _ _ _ => (pv 2))) (pps_cons pe_str (pv 1) (pps_cons pe_str pe_int (pps_cons pe_str pe_int pps_nil)))) (by rfl) (by rfl) (fun z => by cases z) (by decide)))), ?_⟩
  refine ⟨_, rfl, 63, rfl, a, _, rfl, hS, fun p hp => ?_⟩
  rw [show (some (63 : Int)) = some ((63 : Nat) : Int) from rfl, cut_to, List.take_of_length_le (by rw [List.length_map]; exact h63)]
  have k1 : Kp [] H (upd H p (.lst (ns.map V.int))) := Kp.laid hp
  have e1 : SqL K (upd H p (.lst (ns.map V.int))) p (ns.map V.int) := SqL.of upd_same
  generalize upd H p (.lst (ns.map V.int)) = H1 at k1 e1 ⊢
  refine ⟨p, rfl, ⟨_, e1⟩, fun C nC => ?_⟩
  refine lc_pureL (fun _ => true) iAbs e1 nC (by rw [List.length_map]; omega) (fun x H2 Q2 _ _ q2 => q2) (fun x H2 Q2 hx _ _ q2 => ?_) ?_
  · obtain ⟨z, hz, rfl⟩ := List.mem_map.mp hx
    exact ⟨_, rfl, z, rfl, q2⟩
  rw [filter_all]
  have eA : (ns.map V.int).map iAbs = (ns.map fun i => if i < 0 then -i else i).map V.int := by rw [List.map_map, List.map_map]; rfl
  rw [eA]
  generalize hms : (ns.map fun i => if i < 0 then -i else i) = ms
  have ml : ms.length = ns.length := by rw [← hms, List.length_map]
  have mp : ∀ x ∈ ms, 0 ≤ x := fun x hx => by
    rw [← hms] at hx
    obtain ⟨z, _, rfl⟩ := List.mem_map.mp hx
    split <;> omega
  have k2 : Kp [] H1 (upd H1 C (.lst (ms.map V.int))) := Kp.laid nC
  have e2 : upd H1 C (.lst (ms.map V.int)) C = some (.lst (ms.map V.int)) := upd_same
  generalize upd H1 C (.lst (ms.map V.int)) = H2 at k2 e2 ⊢
  -- the dict
  refine fun d nd => ?_
  have k3 : Kp [] H2 (upd H2 d (.dK [])) := Kp.laid nd
  have e3 : upd H2 d (.dK []) d = some (.dK []) := upd_same
  generalize upd H2 d (.dK []) = H3 at k3 e3 ⊢
  have e2' := k3 _ _ (by simp) e2
  refine ⟨_, rfl, C, rfl, ⟨_, SqL.of e2'⟩, fun L nL => ?_⟩
  refine lc_pureL iBig id (SqL.of e2') nL (by rw [List.length_map]; omega) (fun x H4 Q4 hx _ q4 => ?_) (fun x H4 Q4 hx _ _ q4 => ⟨_, rfl, q4⟩) ?_
  · obtain ⟨z, hz, rfl⟩ := List.mem_map.mp hx
    refine ⟨_, rfl, 10, 18, rfl, rfl, ⟨by decide, by decide, by decide⟩, z, _, rfl, rfl, _, rfl, ?_⟩
    exact q4
  have eB : ((ms.map V.int).filter iBig).map id = (ms.filter fun i => decide ((10 : Int) ^ 18 ≤ i)).map V.int := by
    rw [List.map_id, List.filter_map]
    rfl
  rw [eB]
  generalize hbs : (ms.filter fun i => decide ((10 : Int) ^ 18 ≤ i)) = bs
  have bp : ∀ x ∈ bs, 0 ≤ x := fun x hx => by
    rw [← hbs] at hx
    exact mp x (List.mem_filter.mp hx).1
  have nLd : L ≠ d := fun z => by rw [z, e3] at nL; cases nL
  have nLC : L ≠ C := fun z => by rw [z, e2'] at nL; cases nL
  have nCd : C ≠ d := fun z => by rw [z, nd] at e2; cases e2
  have e3' : (upd H3 L (.lst (bs.map V.int))) d = some (.dK []) := by rw [upd_ne nLd.symm]; exact e3
  refine ⟨_, rfl, e3', [(kLarge, .ref L), (kItems, .ref C), (kLeft, .int 0), (kTurn, .int 0)], rfl, by show 4 ≤ 15; decide, ?_⟩
  have em : mergeK [] [(kLarge, V.ref L), (kItems, V.ref C), (kLeft, V.int 0), (kTurn, V.int 0)] = drV ⟨d, L, C⟩ 0 0 := by
    obtain ⟨h1, h2, h3, h4, h5, h6⟩ := ne_lk
    simp [mergeK, putK, drV, h1, h2, h3, h4, h5, h6]
  rw [em]
  have none0 : ∀ b, H2 b = none → H b = none := fun b hb => by
    cases e : H b with
    | none => rfl
    | some o => rw [k2 _ _ (by simp) (k1 _ _ (by simp) e)] at hb; cases hb
  refine q ⟨d, L, C⟩ _ ?_ (none0 d nd) (none0 L ?_) ?_ ⟨nLC.symm, bs, ms, 0, 0, upd_same, by rw [upd_ne nLd]; exact upd_same, by rw [upd_ne nCd, upd_ne nLC.symm]; exact e2', ⟨Int.le_refl 0, Int.le_refl 0, by decide⟩, bp, mp⟩
  · intro b o _ e
    have h2 := k2 _ _ (by simp) (k1 _ _ (by simp) e)
    have bd : b ≠ d := ne_of_none h2 nd
    have bL : b ≠ L := ne_of_none (k3 _ _ (by simp) h2) nL
    rw [upd_ne bd, upd_ne bL]
    exact k3 _ _ (by simp) h2
  · cases e : H2 L with
    | none => rfl
    | some o => rw [k3 _ _ (by simp) e] at nL; cases nL
  · cases e : H C with
    | none => rfl
    | some o => rw [k1 _ _ (by simp) e] at nC; cases nC
end
end NV
/-! SetG -/
set_option Elab.async false
set_option linter.all false
set_option maxRecDepth 100000
set_option maxHeartbeats 600000
/-! sets whose members are of any kind of key, with what their walk needs -/
namespace NV
open PySem PySem.Spec PyProof.Rows L2
section
variable {P : Program} {w : World} {κ : Type} [DecidableEq κ] (knd : PySem.KeyKind P w κ) (key : Value → κ)
/-- key reads a member off a value -/
def KeyFn : Prop := ∀ k v, knd.is k v = true → key v = k
def mem (es : Array (Int × Value)) : List κ := es.toList.map fun e => key e.2
/-- the set at a: S its members, n their number -/
def SetG (h : Heap) (a : Addr) (S : κ → Bool) (n : Nat) : Prop :=
  ∃ o es ep t, (h.get? a = some o ∧ o.ExactSet ∧ o.data = .set es ep t) ∧ (ElemsOf knd es.toList ∧ (mem key es).Nodup ∧ ∀ k, S k = true ↔ k ∈ mem key es) ∧
    (es.size < scanBound ∧ t.fits es.size = true ∧ es.size = n) ∧ Ris t.place.toList ∧ (w.params.followText "set-order" = true ∨ t.led = true)
end
section
variable {P : Program} {w : World} {κ : Type} [DecidableEq κ] {knd : PySem.KeyKind P w κ} {key : Value → κ} {h h' : Heap} {a : Addr} {S : κ → Bool} {n : Nat}
theorem SetG.move (R : SetG knd key h a S n) (k : ∀ o, h.get? a = some o → h'.get? a = some o) : SetG knd key h' a S n :=
  let ⟨o, es, ep, t, ⟨ho, r1⟩, r2⟩ := R
  ⟨o, es, ep, t, ⟨k o ho, r1⟩, r2⟩
theorem SetG.sameS {S' : κ → Bool} (R : SetG knd key h a S n) (e : ∀ k, S' k = S k) : SetG knd key h a S' n := by
  rw [show S' = S from funext e]
  exact R
theorem is_iff (hk : KeyFn knd key) {l : List (Int × Value)} (g : ElemsOf knd l) {e : Int × Value} (he : e ∈ l) (k : κ) : knd.is k e.2 = true ↔ key e.2 = k := by
  obtain ⟨⟨k0, h0, _⟩, _⟩ := g e he
  constructor
  · exact hk k e.2
  · intro q
    rw [hk k0 e.2 h0] at q
    rw [← q]
    exact h0
theorem mem_iff (hk : KeyFn knd key) {es : Array (Int × Value)} (g : ElemsOf knd es.toList) (k : κ) : k ∈ mem key es ↔ ∃ e ∈ es.toList, knd.is k e.2 = true := by
  unfold mem
  rw [List.mem_map]
  exact ⟨fun ⟨e, he, q⟩ => ⟨e, he, (is_iff hk g he k).mpr q⟩, fun ⟨e, he, q⟩ => ⟨e, he, (is_iff hk g he k).mp q⟩⟩
theorem SetG.plain (hk : KeyFn knd key) (R : SetG knd key h a S n) : h.SetOf knd a S n :=
  let ⟨o, es, ep, t, ⟨ho, hx, hd⟩, ⟨g, _, hm⟩, ⟨hb, hf, hn⟩, _⟩ := R
  ⟨o, es, ep, t, ho, hx, hd, g, fun k => (hm k).trans (mem_iff hk g k), hb, hf, hn⟩
/-- the empty set just laid -/
theorem SetG.start {o : Obj} (ho : h.get? a = some o) (e : o = { cls := .type "set", dict := none, data := .set #[] 0 (.fresh 0 0 (!w.params.followText "set-order")) }) : SetG knd key h a (fun _ => false) 0 := by
  subst e
  refine ⟨_, #[], 0, _, ⟨ho, ⟨rfl, rfl, rfl⟩, rfl⟩, ⟨fun e he => by simp at he, by simp [mem], fun k => by simp [mem]⟩, ⟨by decide, by rfl, rfl⟩, List.Pairwise.nil, ?_⟩
  cases hq : w.params.followText "set-order"
  · exact .inr rfl
  · exact .inl rfl
end
section
variable {P : Program} {w : World} {κ : Type} [DecidableEq κ] {knd : PySem.KeyKind P w κ} {key : Value → κ} {A : Around} {E : Value → Shared → Prop} {s : Shared} {a : Addr} {S : κ → Bool} {n : Nat}
/-- what is stored, once the member has its place; the table may be laid anew -/
theorem setG_tail {g : Bool → Sem Unit} (hg : ∀ b, ∃ r : Bool, g b = if r then rule "set.scan.the-table-gave-way" else pure ()) {o : Obj} {es es1 : Array (Int × Value)} {ep : Nat} {t t2 : SetTable} {S' : κ → Bool} {wd : Bool} {R : Option Bool → Shared → Prop}
    (ho : s.heap.get? a = some o) (hx : o.ExactSet) (hd : o.data = .set es ep t) (g1 : ElemsOf knd es1.toList) (nd : (mem key es1).Nodup) (hm : ∀ k, S' k = true ↔ k ∈ mem key es1)
    (hb : es1.size < scanBound) (hf : t2.fits es1.size = true) (hr : Ris t2.place.toList) (hl : w.params.followText "set-order" = true ∨ t2.led = true)
    (hR : ∀ h', Heap.SameBut a s.heap h' → SetG knd key h' a S' es1.size → R (some true) { s with heap := h' }) :
    wpAny (model P w) A (do
        storeSet a es1 t2
        if (!wd && t2.tooFull) = true then do
            g (relayAll t2 es1 (SetTable.grown es1.size)).2.2
            storeSet a (relayAll t2 es1 (SetTable.grown es1.size)).1 (relayAll t2 es1 (SetTable.grown es1.size)).2.1
            pure (some true)
          else pure (some true)) R E s := by
  have go : ∀ b {s₁ : Shared} {Q : Unit → Shared → Prop}, Q () s₁ → wpAny (model P w) A (g b) Q E s₁ := fun b s₁ Q q => by
    obtain ⟨r, e⟩ := hg b
    rw [e]
    cases r
    · exact wpAny_pure q
    · exact wpAny_rule q
  have first := store_at (es' := es1) (t' := t2) ho hd
  have same1 := Heap.SameBut.update s.heap a (Obj.putSet es1 t2)
  refine wpAny_bind (wpAny_storeSet_of ho hd ?_ (fits_of_scanBound hb))
  by_cases c : (!wd && t2.tooFull) = true
  · rw [if_pos c]
    have pm := relayAll_perm t2 es1 (SetTable.grown es1.size)
    have hf3 := relayAll_fits t2 es1 (SetTable.grown es1.size)
    have hr3 := relayAll_ris t2 es1 (SetTable.grown es1.size)
    have hl3 := relayAll_led t2 es1 (SetTable.grown es1.size)
    generalize relayAll t2 es1 (SetTable.grown es1.size) = Z at pm hf3 hr3 hl3 ⊢
    obtain ⟨es2, t3, gave⟩ := Z
    dsimp only at pm hf3 hr3 hl3 ⊢
    have hz : es2.size = es1.size := by
      have q := pm.length_eq
      simpa using q
    have hb2 : es2.size < scanBound := by rw [hz]; exact hb
    have pk : (mem key es2).Perm (mem key es1) := List.Perm.map (fun e : Int × Value => key e.2) pm
    have led3 : w.params.followText "set-order" = true ∨ t3.led = true := by rw [hl3]; exact hl
    refine wpAny_bind (go _ (wpAny_bind (wpAny_storeSet_of first rfl (wpAny_pure (hR _ (same1.trans (Heap.SameBut.update _ a _)) ?_)) (fits_of_scanBound hb2))))
    have last := store_at (es' := es2) (t' := t3) first rfl
    exact ⟨_, es2, _, t3, ⟨last, hx, rfl⟩, ⟨g1.perm pm, pk.nodup_iff.mpr nd, fun k => (hm k).trans pk.mem_iff.symm⟩, ⟨hb2, hf3, hz⟩, hr3, led3⟩
  · rw [if_neg c]
    exact wpAny_pure (hR _ same1 ⟨_, _, _, _, ⟨first, hx, rfl⟩, ⟨g1, nd, hm⟩, ⟨hb, hf, rfl⟩, hr, hl⟩)
theorem setG_add_hashed (hk : KeyFn knd key) {k : κ} {x : Value} {Q : Bool → Shared → Prop} (hx : knd.is k x = true) (hsc : x.scannable = true) (R : SetG knd key s.heap a S n) (room : n + 1 < scanBound)
    (hQ : ∀ h', Heap.SameBut a s.heap h' → SetG knd key h' a (fun j => S j || decide (j = k)) (if S k = true then n else n + 1) → Q (!S k) { s with heap := h' }) :
    wpAny (model P w) A (setAddHashed a x (knd.hash k)) Q E s := by
  obtain ⟨o, es, ep, t, ⟨ho, hex, hd⟩, ⟨g, nd, hm⟩, ⟨hb, hf, hn⟩, hr, hl⟩ := R
  unfold setAddHashed setAddHashedIn
  refine wpAny_holding (wpAny_bind (wpAny_setState_of ho hd hf ?_))
  dsimp only
  rw [byScan_of hsc hb g]
  simp only [↓reduceIte]
  unfold setAddByScan
  refine wpAny_bind (wpAny_bind (wpAny_rule (wpAny_bind (wpAny_setScan_of hx ho hd hf g ?_))))
  cases hfi : es.toList.findIdx? (fun e => knd.is k e.2) with
  | some j =>
    obtain ⟨hj, pj, _⟩ := List.findIdx?_eq_some_iff_getElem.mp hfi
    have there : S k = true := (hm k).mpr ((mem_iff hk g k).mpr ⟨_, List.getElem_mem hj, pj⟩)
    have q := hQ s.heap (Heap.SameBut.refl a s.heap) ⟨o, es, ep, t, ⟨ho, hex, hd⟩, ⟨g, nd, fun i => ?_⟩, ⟨hb, hf, by rw [if_pos there]; exact hn⟩, hr, hl⟩
    · rw [there] at q
      exact wpAny_pure (wpAny_pure q)
    · rw [← hm i, Bool.or_eq_true, decide_eq_true_eq]
      refine ⟨fun z => z.elim id fun e => ?_, Or.inl⟩
      rw [e]; exact there
  | none =>
    have hnk : k ∉ mem key es := fun z => by
      obtain ⟨e, he, q⟩ := (mem_iff hk g k).mp z
      have c := List.findIdx?_eq_none_iff.mp hfi e he
      rw [q] at c
      cases c
    have gone : S k = false := Bool.eq_false_iff.mpr fun q => hnk ((hm k).mp q)
    dsimp only
    have pm := layNew_perm t es (knd.hash k) x
    have hf1 := layNew_fits t es (knd.hash k) x
    have hr1 := layNew_ris t es (knd.hash k) x hr
    have hl1 := layNew_led t es (knd.hash k) x
    generalize layNew t es (knd.hash k) x = Z at pm hf1 hr1 hl1 ⊢
    obtain ⟨es1, t1, wd, gave⟩ := Z
    dsimp only at pm hf1 hr1 hl1 ⊢
    rw [Array.toList_push] at pm
    have g1 : ElemsOf knd es1.toList := (g.push hx hsc).perm pm
    have pk : (mem key es1).Perm (k :: mem key es) := by
      have q := (pm.trans (List.perm_append_singleton _ _)).map fun e : Int × Value => key e.2
      rw [List.map_cons] at q
      rw [hk k x hx] at q
      exact q
    have nd1 : (mem key es1).Nodup := pk.nodup_iff.mpr (List.nodup_cons.mpr ⟨hnk, nd⟩)
    have m1 : ∀ i, (S i || decide (i = k)) = true ↔ i ∈ mem key es1 := fun i => by
      rw [pk.mem_iff, List.mem_cons, ← hm i, Bool.or_eq_true, decide_eq_true_eq]
      exact Or.comm
    have hz : es1.size = n + 1 := by
      have q := pm.length_eq
      simp only [List.length_append, List.length_singleton, Array.length_toList] at q
      omega
    have hb1 : es1.size < scanBound := by rw [hz]; exact room
    have hled : w.params.followText "set-order" = true ∨ t1.led = true := by
      rw [hl1]; exact hl
    have fin : ∀ h', Heap.SameBut a s.heap h' → SetG knd key h' a (fun j => S j || decide (j = k)) es1.size → Q true { s with heap := h' } := fun h' sb r => by
      rw [hz] at r
      have q := hQ h' sb (by rw [gone]; exact r)
      rw [gone] at q
      exact q
    have way : ∀ b : Bool, ∃ r : Bool, (match b with | true => rule "set.scan.the-table-gave-way" | false => pure () : Sem Unit) = if r then rule "set.scan.the-table-gave-way" else pure () := fun b => ⟨b, by cases b <;> rfl⟩
    refine wpAny_bind ?_
    have hgw : ∀ (b : Bool) {s₁ : Shared} {Q' : Unit → Shared → Prop}, Q' () s₁ → wpAny (model P w) A (match b with | true => rule "set.scan.the-table-gave-way" | false => pure ()) Q' E s₁ := fun b s₁ Q' q => by
      cases b
      · exact wpAny_pure q
      · exact wpAny_rule q
    refine hgw _ ?_
    split
    · refine wpAny_bind ?_
      rw [hashByValue_scannable 8 hsc]
      refine wpAny_pure (setG_tail way ho hex hd g1 nd1 m1 hb1 ?_ ?_ ?_ fun h' sb r => wpAny_pure (fin h' sb r))
      · first | exact hf1 | (split <;> first | exact hf1 | exact SetTable.fits_plain_off hf1)
      · first | exact hr1 | (split <;> exact hr1)
      · first | exact hled | (split <;> exact hled)
    · refine wpAny_bind (wpAny_pure ?_)
      simp only [↓reduceIte]
      exact setG_tail way ho hex hd g1 nd1 m1 hb1 hf1 hr1 hled fun h' sb r => wpAny_pure (fin h' sb r)
end
end NV
/-! SetG2 -/
set_option Elab.async false
set_option linter.all false
set_option maxRecDepth 100000
set_option maxHeartbeats 3200000
/-! set(xs) of a list or a tuple of keys; sorted of a set of texts -/
namespace NV
open PySem PySem.Spec PyProof.Rows L2
abbrev blank (w : World) : Obj := { cls := .type "set", dict := none, data := .set #[] 0 (.fresh 0 0 (!w.params.followText "set-order")) }
section
variable {P : Program} {w : World} {κ : Type} [DecidableEq κ] {knd : PySem.KeyKind P w κ} {key : Value → κ} {A : Around} {E : Value → Shared → Prop} {s : Shared}
/-- the items go into the set one by one -/
theorem fill (hk : KeyFn knd key) {I : Addr} {fp wr : List Addr} {G : Array GenState → Array GenState → Prop} {n : Nat} {Pv : Nat → Value → Prop} {St : Nat → Shared → Prop} {R : Result → Shared → Prop}
    (W : WalksS P w A.in1 I fp wr G n Pv St) (S : Addr) (hSf : S ∉ fp) (ks : List κ) (hn : n = ks.length) (hb : ks.length + 1 < scanBound) (hval : ∀ i v, Pv i v → ∃ k, ks[i]? = some k ∧ knd.is k v = true ∧ v.scannable = true)
    (hR : ∀ s0 s' c, Moved (S :: wr) G s0 s' → s0 = s → c ≤ n → SetG knd key s'.heap S (fun j => decide (j ∈ ks)) c → R (.ok (.ret .none)) s') :
    ∀ (m i : Nat) (s1 : Shared), n - i = m → i ≤ n → St i s1 → (i = 0 ∧ s1 = s ∨ Moved (S :: wr) G s s1) → (∃ c, c ≤ i ∧ SetG knd key s1.heap S (fun j => decide (j ∈ ks.take i)) c) →
      codeAny (model P w) A (.builtin "set.update.loop" ⟨[.ref S, .ref I], []⟩) R s1 := by
  have hSw : S ∉ wr := fun h => hSf (W.sub _ h)
  have up : ∀ b ∈ wr, b ∈ S :: wr := fun b hb => List.mem_cons_of_mem _ hb
  have after : ∀ {i : Nat} {s1 s2 : Shared}, (i = 0 ∧ s1 = s ∨ Moved (S :: wr) G s s1) → Moved (S :: wr) G s1 s2 → Moved (S :: wr) G s s2 := fun h hm => by
    rcases h with ⟨_, rfl⟩ | h
    · exact hm
    · exact h.trans W.gtrans hm
  intro m
  induction m with
  | zero =>
    intro i s1 hm hi hst hmv ⟨c, hc, hS⟩
    have hin : i = n := by omega
    subst hin
    refine codeAny_builtin F.entry_set_update_loop ?_
    rw [Around.under_plainId F.plain_set_update_loop _]
    refine wpAny_bind (m := pyNext (.ref I)) (W.done s1 _ _ hst fun s2 hm2 => ?_)
    have et : ks.take i = ks := List.take_of_length_le (Nat.le_of_eq hn.symm)
    rw [et] at hS
    exact wpAny_pure (hR s s2 c (after hmv (hm2.mono up)) rfl hc (hS.move fun o e => hm2.heap S o hSw e))
  | succ m ih =>
    intro i s1 hm hi hst hmv ⟨c, hc, hS⟩
    have hlt : i < n := by omega
    refine codeAny_builtin F.entry_set_update_loop ?_
    rw [Around.under_plainId F.plain_set_update_loop _]
    refine wpAny_bind (m := pyNext (.ref I)) (W.item i s1 _ _ hlt hst fun v s2 hP hst2 hm2 => ?_)
    obtain ⟨k, hk1, hk2, hk3⟩ := hval i v hP
    have hS2 : SetG knd key s2.heap S (fun j => decide (j ∈ ks.take i)) c := hS.move fun o e => hm2.heap S o hSw e
    refine wpAny_bind (m := holding [v] (setAdd S v)) (wpAny_holding ?_)
    unfold setAdd
    refine wpAny_holding (wpAny_bind (knd.pyHash hk2 ?_))
    refine setG_add_hashed (s := { s2 with toks := s2.toks + 1 }) hk hk2 hk3 hS2 (by omega) fun h3 hsb hS3 => ?_
    have hS4 : SetG knd key h3 S (fun j => decide (j ∈ ks.take (i + 1))) (if decide (k ∈ ks.take i) = true then c else c + 1) := hS3.sameS fun j => by
      rw [List.take_add_one, hk1]
      simp [List.mem_append]
    have hle : (if decide (k ∈ ks.take i) = true then c else c + 1) ≤ i + 1 := by split <;> omega
    have oth : ∀ b o, b ≠ S → s2.heap.get? b = some o → h3.get? b = some o := fun b o hb e => (hsb.2 b hb).trans e
    refine wpAny_pure ⟨plainId_quiet F.plain_set_update_loop _, ih (i + 1) _ (by omega) hlt (W.frame _ s2 _ _ hst2 (Nat.le_succ _) fun b hb o e => oth b o (fun z => hSf (by rw [← z]; exact hb)) e) (.inr (after hmv ((hm2.mono up).then_heap (Nat.le_succ _) fun b o hb e => ?_))) ⟨_, hle, hS4⟩⟩
    exact oth b o (fun z => hb (by rw [z]; exact List.mem_cons_self)) e
end
end NV
/-! SetG3 -/
set_option Elab.async false
set_option linter.all false
set_option maxRecDepth 100000
set_option maxHeartbeats 3200000
namespace NV
open PySem PySem.Spec PyProof.Rows L2
section
variable {P : Program} {w : World} {κ : Type} [DecidableEq κ] {knd : PySem.KeyKind P w κ} {key : Value → κ} {A : Around} {E : Value → Shared → Prop} {s : Shared}

theorem call_set_Tuple (hk : KeyFn knd key) {l : Addr} {items : Array Value} (ks : List κ) {Q : Value → Shared → Prop} (hh : A.handled = none) (hl : s.heap.IsTuple l items) (hz : items.size = ks.length)
    (hval : ∀ (i : Nat) (v : Value), items[i]? = some v → ∃ k, ks[i]? = some k ∧ knd.is k v = true ∧ v.scannable = true) (hb : ks.length + 1 < scanBound)
    (h : ∀ (h' : Heap) (tk c : Nat), SetG knd key h' s.heap.objs.size (fun j => decide (j ∈ ks)) c → (∀ b o, s.heap.get? b = some o → h'.get? b = some o) → Q (.ref s.heap.objs.size) { s with heap := h', toks := tk }) :
    wpAny (model P w) A (call (.type "set") [.ref l]) Q E s := by
  obtain ⟨c0, tl, hmro⟩ := F.called_set.mro
  have hmade := F.called_set.made
  have hsub := F.called_set.sub
  refine wpAny_call (codeAny_of_tree ?_)
  show wpAny _ _ (callAny (.type "set") _) _ _ _
  refine wpAny_pure ⟨Code.quiet_builtin _ (by decide +kernel), codeAny_builtin F.entry_type_call ?_⟩
  rw [Around.under_plain (weight_type_call_type "set" [.ref l] []) rfl]
  have h1 := F.called_set.notType
  have h2 := F.called_set.canCreate
  have hct := F.typeCall_set_1 (.ref l)
  repeat (any_goals (first | assumption | wp_step))
  generalize hn0 : ({ s with heap := s.heap.push (blank w) } : Shared) = s0
  have e0 : s0.heap = s.heap.push (blank w) := by rw [← hn0]
  refine codeAny_mono (code_set_led1 (.ref l) (E := E) (Q₁ := fun obj s₁ => obj = .ref s.heap.objs.size ∧ s₁ = s0) ⟨rfl, hn0⟩) fun r s₁ hr => ?_
  match r, hr with
  | .error e, hr => exact hr
  | .ok .next, hr => exact hr.elim
  | .ok .brk, hr => exact hr.elim
  | .ok .cont, hr => exact hr.elim
  | .ok (.ret obj), hr =>
    obtain ⟨rfl, rfl⟩ := hr
    have hS : s₁.heap.get? s.heap.objs.size = some (blank w) := by rw [e0]; exact Heap.get?_push_size _ rfl
    have hT : Shared.TypeIs s₁ (.ref s.heap.objs.size) "set" := ⟨_, hS, rfl⟩
    have hli := F.called_set.init.lookup
    have hbi := F.called_set.init.bind (.ref s.heap.objs.size)
    repeat (any_goals (first | assumption | wp_step))
    refine codeAny_mono (codeAny_call_builtin (R := wants (fun r s₂ => r = .none ∧ ∃ h' tk c, s₂ = { s with heap := h', toks := tk } ∧ SetG knd key h' s.heap.objs.size (fun j => decide (j ∈ ks)) c ∧
        (∀ b o, s.heap.get? b = some o → h'.get? b = some o)) E) F.called_set.init.plain F.entry_set_init (check_set_init_1 hT ?_)) fun r₂ s₂ hr₂ => ?_
    · have hl1 : s₁.heap.IsTuple l items := by rw [e0]; exact hl.push _
      have hlS : l < s.heap.objs.size := let ⟨_, ho, _⟩ := hl; Heap.lt_size ho
      have hsz : s₁.heap.objs.size = s.heap.objs.size + 1 := by rw [e0]; exact Heap.size_push ..
      obtain ⟨ol, hol, hcl, hrest⟩ := id hl1
      have hsls := F.sub_tuple_set
      have hslf := F.sub_tuple_frozenset
      have hne : (Value.type "tuple" == Value.type "dict") = false := by decide
      have hty : s₁.TypeIs (.ref l) "tuple" := hl1.typeIs
      unfold Builtin.«set.__init__» noKeywords Builtin.Frozenset.updateFrom
      generalize hPI : pyIter = PI
      wp_walk
      subst hPI
      refine wpAny_pyIter_tuple hl1 (wpAny_bind (wpAny_runValue ?_))
      generalize hn2 : ({ s₁ with heap := s₁.heap.push { cls := .type "tuple_iterator", data := .fields #[.ref l, .int 0 0] } } : Shared) = s3
      have e3 : s3.heap = s₁.heap.push { cls := .type "tuple_iterator", data := .fields #[.ref l, .int 0 0] } := by rw [← hn2]
      have k01 : ∀ b o, s.heap.get? b = some o → s₁.heap.get? b = some o := fun b o e => by rw [e0]; exact Heap.get?_push_of_some _ e
      have k13 : ∀ b o, s₁.heap.get? b = some o → s3.heap.get? b = some o := fun b o e => by rw [e3]; exact Heap.get?_push_of_some _ e
      have hneI : l ≠ s₁.heap.objs.size := fun z => by rw [z, hsz] at hlS; exact absurd hlS (Nat.not_lt.mpr (Nat.le_succ _))
      have hSf : s.heap.objs.size ∉ [s₁.heap.objs.size, l] := fun z => by
        rcases List.mem_cons.mp z with z | z
        · exact absurd (z.trans hsz) (Nat.ne_of_lt (Nat.lt_succ_self _))
        · rw [List.mem_singleton.mp z] at hlS
          exact Nat.lt_irrefl _ hlS
      have W := Walks.tuple (prog := P) (w := w) (A := A.in1.in1.in1) (by simp [hh]) s₁.heap.objs.size l hneI items
      refine fill (s := s3) hk W.toS s.heap.objs.size hSf ks hz hb hval (fun sx s' c' hm ex hcn hS' => ?_) (items.size - 0) 0 s3 rfl (Nat.zero_le _) ⟨⟨_, by rw [e3]; exact Heap.get?_push_size _ rfl, rfl, rfl⟩, by rw [e3]; exact hl1.push _⟩ (.inl ⟨rfl, rfl⟩) ⟨0, Nat.le_refl 0, SetG.sameS (SetG.start (k13 _ _ hS) rfl) fun k => by simp⟩
      subst ex
      obtain ⟨h', g2, d', tk', os'⟩ := s'
      have eg : g2 = s.gens := by
        have q := hm.gens
        rw [← hn2, ← hn0] at q
        exact q
      have ed : d' = s.drawn := by
        have q := hm.drawn
        rw [← hn2, ← hn0] at q
        exact q
      have eo : os' = s.os := by
        have q := hm.os
        rw [← hn2, ← hn0] at q
        exact q
      subst eg; subst ed; subst eo
      refine wpAny_pure ?_
      show wpAny _ _ (ret Value.none) _ _ _
      refine wpAny_pure ⟨rfl, h', tk', c', rfl, hS', fun b o e => ?_⟩
      have hb0 : b < s.heap.objs.size := Heap.lt_size e
      refine hm.heap b o (fun z => ?_) (k13 b o (k01 b o e))
      rcases List.mem_cons.mp z with z | z
      · exact Nat.ne_of_lt hb0 z
      · rw [List.mem_singleton.mp z, hsz] at hb0
        exact absurd hb0 (Nat.not_lt.mpr (Nat.le_succ _))
    · match r₂, hr₂ with
      | .error e, hr₂ => exact hr₂
      | .ok .next, hr₂ => exact hr₂.elim
      | .ok .brk, hr₂ => exact hr₂.elim
      | .ok .cont, hr₂ => exact hr₂.elim
      | .ok (.ret r), hr₂ =>
        obtain ⟨rfl, h', tk, c', rfl, hS', hk'⟩ := hr₂
        repeat (any_goals (first | assumption | wp_step))
        exact h _ _ _ hS' hk'
end
end NV
/-! SetG3L -/
set_option Elab.async false
set_option linter.all false
set_option maxRecDepth 100000
set_option maxHeartbeats 3200000
namespace NV
open PySem PySem.Spec PyProof.Rows L2
section
variable {P : Program} {w : World} {κ : Type} [DecidableEq κ] {knd : PySem.KeyKind P w κ} {key : Value → κ} {A : Around} {E : Value → Shared → Prop} {s : Shared}

theorem call_set_List (hk : KeyFn knd key) {l : Addr} {items : Array Value} (ks : List κ) {Q : Value → Shared → Prop} (hh : A.handled = none) (hl : s.heap.IsList l items) (hz : items.size = ks.length)
    (hval : ∀ (i : Nat) (v : Value), items[i]? = some v → ∃ k, ks[i]? = some k ∧ knd.is k v = true ∧ v.scannable = true) (hb : ks.length + 1 < scanBound)
    (h : ∀ (h' : Heap) (tk c : Nat), SetG knd key h' s.heap.objs.size (fun j => decide (j ∈ ks)) c → (∀ b o, s.heap.get? b = some o → h'.get? b = some o) → Q (.ref s.heap.objs.size) { s with heap := h', toks := tk }) :
    wpAny (model P w) A (call (.type "set") [.ref l]) Q E s := by
  obtain ⟨c0, tl, hmro⟩ := F.called_set.mro
  have hmade := F.called_set.made
  have hsub := F.called_set.sub
  refine wpAny_call (codeAny_of_tree ?_)
  show wpAny _ _ (callAny (.type "set") _) _ _ _
  refine wpAny_pure ⟨Code.quiet_builtin _ (by decide +kernel), codeAny_builtin F.entry_type_call ?_⟩
  rw [Around.under_plain (weight_type_call_type "set" [.ref l] []) rfl]
  have h1 := F.called_set.notType
  have h2 := F.called_set.canCreate
  have hct := F.typeCall_set_1 (.ref l)
  repeat (any_goals (first | assumption | wp_step))
  generalize hn0 : ({ s with heap := s.heap.push (blank w) } : Shared) = s0
  have e0 : s0.heap = s.heap.push (blank w) := by rw [← hn0]
  refine codeAny_mono (code_set_led1 (.ref l) (E := E) (Q₁ := fun obj s₁ => obj = .ref s.heap.objs.size ∧ s₁ = s0) ⟨rfl, hn0⟩) fun r s₁ hr => ?_
  match r, hr with
  | .error e, hr => exact hr
  | .ok .next, hr => exact hr.elim
  | .ok .brk, hr => exact hr.elim
  | .ok .cont, hr => exact hr.elim
  | .ok (.ret obj), hr =>
    obtain ⟨rfl, rfl⟩ := hr
    have hS : s₁.heap.get? s.heap.objs.size = some (blank w) := by rw [e0]; exact Heap.get?_push_size _ rfl
    have hT : Shared.TypeIs s₁ (.ref s.heap.objs.size) "set" := ⟨_, hS, rfl⟩
    have hli := F.called_set.init.lookup
    have hbi := F.called_set.init.bind (.ref s.heap.objs.size)
    repeat (any_goals (first | assumption | wp_step))
    refine codeAny_mono (codeAny_call_builtin (R := wants (fun r s₂ => r = .none ∧ ∃ h' tk c, s₂ = { s with heap := h', toks := tk } ∧ SetG knd key h' s.heap.objs.size (fun j => decide (j ∈ ks)) c ∧
        (∀ b o, s.heap.get? b = some o → h'.get? b = some o)) E) F.called_set.init.plain F.entry_set_init (check_set_init_1 hT ?_)) fun r₂ s₂ hr₂ => ?_
    · have hl1 : s₁.heap.IsList l items := by rw [e0]; exact hl.push _
      have hlS : l < s.heap.objs.size := let ⟨_, ho, _⟩ := hl; Heap.lt_size ho
      have hsz : s₁.heap.objs.size = s.heap.objs.size + 1 := by rw [e0]; exact Heap.size_push ..
      obtain ⟨ol, hol, hcl, hrest⟩ := id hl1
      have hsls := F.sub_list_set
      have hslf := F.sub_list_frozenset
      have hne : (Value.type "list" == Value.type "dict") = false := by decide
      have hty : s₁.TypeIs (.ref l) "list" := hl1.typeIs
      unfold Builtin.«set.__init__» noKeywords Builtin.Frozenset.updateFrom
      generalize hPI : pyIter = PI
      wp_walk
      subst hPI
      refine wpAny_pyIter_list hl1 (wpAny_bind (wpAny_runValue ?_))
      generalize hn2 : ({ s₁ with heap := s₁.heap.push { cls := .type "list_iterator", data := .fields #[.ref l, .int 0 0] } } : Shared) = s3
      have e3 : s3.heap = s₁.heap.push { cls := .type "list_iterator", data := .fields #[.ref l, .int 0 0] } := by rw [← hn2]
      have k01 : ∀ b o, s.heap.get? b = some o → s₁.heap.get? b = some o := fun b o e => by rw [e0]; exact Heap.get?_push_of_some _ e
      have k13 : ∀ b o, s₁.heap.get? b = some o → s3.heap.get? b = some o := fun b o e => by rw [e3]; exact Heap.get?_push_of_some _ e
      have hneI : l ≠ s₁.heap.objs.size := fun z => by rw [z, hsz] at hlS; exact absurd hlS (Nat.not_lt.mpr (Nat.le_succ _))
      have hSf : s.heap.objs.size ∉ [s₁.heap.objs.size, l] := fun z => by
        rcases List.mem_cons.mp z with z | z
        · exact absurd (z.trans hsz) (Nat.ne_of_lt (Nat.lt_succ_self _))
        · rw [List.mem_singleton.mp z] at hlS
          exact Nat.lt_irrefl _ hlS
      have W := Walks.list (prog := P) (w := w) (A := A.in1.in1.in1) (by simp [hh]) s₁.heap.objs.size l hneI items
      refine fill (s := s3) hk W.toS s.heap.objs.size hSf ks hz hb hval (fun sx s' c' hm ex hcn hS' => ?_) (items.size - 0) 0 s3 rfl (Nat.zero_le _) ⟨⟨_, by rw [e3]; exact Heap.get?_push_size _ rfl, rfl, rfl⟩, by rw [e3]; exact hl1.push _⟩ (.inl ⟨rfl, rfl⟩) ⟨0, Nat.le_refl 0, SetG.sameS (SetG.start (k13 _ _ hS) rfl) fun k => by simp⟩
      subst ex
      obtain ⟨h', g2, d', tk', os'⟩ := s'
      have eg : g2 = s.gens := by
        have q := hm.gens
        rw [← hn2, ← hn0] at q
        exact q
      have ed : d' = s.drawn := by
        have q := hm.drawn
        rw [← hn2, ← hn0] at q
        exact q
      have eo : os' = s.os := by
        have q := hm.os
        rw [← hn2, ← hn0] at q
        exact q
      subst eg; subst ed; subst eo
      refine wpAny_pure ?_
      show wpAny _ _ (ret Value.none) _ _ _
      refine wpAny_pure ⟨rfl, h', tk', c', rfl, hS', fun b o e => ?_⟩
      have hb0 : b < s.heap.objs.size := Heap.lt_size e
      refine hm.heap b o (fun z => ?_) (k13 b o (k01 b o e))
      rcases List.mem_cons.mp z with z | z
      · exact Nat.ne_of_lt hb0 z
      · rw [List.mem_singleton.mp z, hsz] at hb0
        exact absurd hb0 (Nat.not_lt.mpr (Nat.le_succ _))
    · match r₂, hr₂ with
      | .error e, hr₂ => exact hr₂
      | .ok .next, hr₂ => exact hr₂.elim
      | .ok .brk, hr₂ => exact hr₂.elim
      | .ok .cont, hr₂ => exact hr₂.elim
      | .ok (.ret r), hr₂ =>
        obtain ⟨rfl, h', tk, c', rfl, hS', hk'⟩ := hr₂
        repeat (any_goals (first | assumption | wp_step))
        exact h _ _ _ hS' hk'
end
end NV
/-! SetG4 -/
set_option Elab.async false
set_option linter.all false
set_option maxRecDepth 100000
set_option maxHeartbeats 600000
/-! sets of texts: made of a sequence, len, sorted -/
namespace NV
open PySem PySem.Spec PyProof.Rows L2
def tKey : Value → Str
  | .str z _ => z
  | _ => ""
section
variable {P : Program} {w : World}
theorem tKey_ok : KeyFn (PySem.strKind P w) tKey := fun k v h => by
  obtain ⟨t, rfl⟩ := Value.isStrOf_shape h
  rfl
def SetT (P : Program) (w : World) (a : Addr) (S : Str → Bool) (n : Nat) : HO := .ext fun h => SetG (PySem.strKind P w) tKey h a S n
theorem setT_new {H : Hp} {h : Heap} {a : Addr} {S : Str → Bool} {n : Nat} (R : SetG (PySem.strKind P w) tKey h a S n) : ObjOk P w H h a (SetT P w a S n) := by
  have ⟨o, _, _, _, ⟨ho, _⟩, _⟩ := R
  exact ⟨R, ⟨o, ho⟩, fun h1 h2 p k => SetG.move p k⟩
end
/-! ### sizes -/
theorem few_of {m : List Str} : ∀ {z : List Str}, m.Nodup → (∀ k ∈ m, k ∈ z) → m.length ≤ z.length ∧ (m.length = z.length → z.Nodup)
  | [], _, h => by
    cases m with
    | nil => exact ⟨Nat.le_refl _, fun _ => .nil⟩
    | cons x m => exact absurd (h x List.mem_cons_self) (by simp)
  | x :: t, hd, h => by
    have h1 : (m.erase x).Nodup := hd.sublist List.erase_sublist
    have h2 : ∀ k ∈ m.erase x, k ∈ t := fun k hk => by
      rcases List.mem_cons.mp (h k (List.mem_of_mem_erase hk)) with z | z
      · rw [z] at hk
        exact absurd hk hd.not_mem_erase
      · exact z
    obtain ⟨a, b⟩ := few_of h1 h2
    have hl : m.length ≤ (m.erase x).length + 1 := by
      rw [List.length_erase]
      split <;> omega
    refine ⟨by rw [List.length_cons]; omega, fun e => ?_⟩
    rw [List.length_cons] at e
    by_cases hx : x ∈ t
    · have h3 : ∀ k ∈ m, k ∈ t := fun k hk => by
        rcases List.mem_cons.mp (h k hk) with z | z
        · rw [z]; exact hx
        · exact z
      have := (few_of hd h3).1
      omega
    · exact List.nodup_cons.mpr ⟨hx, b (by omega)⟩
theorem same_size {m z : List Str} (hm : m.Nodup) (hz : z.Nodup) (h : ∀ k, k ∈ m ↔ k ∈ z) : m.length = z.length :=
  Nat.le_antisymm (few_of hm fun k hk => (h k).mp hk).1 (few_of hz fun k hk => (h k).mpr hk).1
section
variable {P : Program} {w : World}
theorem setG_size {h : Heap} {a : Addr} {zs : List Str} {n : Nat} (R : SetG (PySem.strKind P w) tKey h a (fun j => decide (j ∈ zs)) n) : n ≤ zs.length ∧ (n = zs.length ↔ zs.Nodup) := by
  obtain ⟨o, es, ep, t, _, ⟨_, nd, hm⟩, ⟨_, _, hn⟩, _⟩ := R
  have hl : (mem tKey es).length = n := by unfold mem; rw [List.length_map, Array.length_toList]; exact hn
  have hm' : ∀ k, k ∈ mem tKey es ↔ k ∈ zs := fun k => by rw [← hm k, decide_eq_true_eq]
  obtain ⟨h1, h2⟩ := few_of nd fun k hk => (hm' k).mp hk
  rw [hl] at h1 h2
  exact ⟨h1, h2, fun z => by rw [← hl]; exact same_size nd z hm'⟩
end
section
variable {P : Program} {w : World} {A : Around} {E : Value → Shared → Prop} {s : Shared} {a : Addr}
theorem sorted_setG {S : Str → Bool} {n : Nat} {Q : Value → Shared → Prop} (R : SetG (PySem.strKind P w) tKey s.heap a S n) (hh : A.handled = none) (h64 : n < 64)
    (hQ : ∀ s' p (out : Array Value) (c : Nat) (zs : List Str), (∀ b o, s.heap.get? b = some o → s'.heap.get? b = some o) → s'.gens = s.gens → s'.os = s.os → s.heap.objs.size ≤ p →
      s'.heap.get? p = some (seqObj "list" out c) → StrsAre out.toList zs → Asc zs → (∀ k, k ∈ zs ↔ S k = true) → zs.length = n → Q (.ref p) s') :
    wpAny (model P w) A (call (.builtin "sorted") [.ref a]) Q E s := by
  obtain ⟨o, es, ep, t, ⟨ho, hex, hd⟩, ⟨g, nd, hm⟩, ⟨hb, hf, hn⟩, hr, hl⟩ := R
  refine Calls.call_function_entry kind_sorted plain_sorted entry_sorted (args_sorted1 _) ?_
  unfold Builtin.«sorted»
  refine wpAny_bind (m := checkCount "sorted" 1 1 _) (wpAny_pure ?_)
  refine wpAny_bind (collect_set (A := A.in1) hh ⟨o, ho, hex.1, hd⟩ hf hb hr hl fun s1 vs k1 hz g1 o1 pm => ?_)
  have hvl : vs.length = n := by rw [pm.length_eq, List.length_map, Array.length_toList]; exact hn
  have hI : StrsAre vs (vs.map tKey) := by
    have : ∀ l : List Value, (∀ v ∈ l, ∃ k u, v = Value.str k u) → StrsAre l (l.map tKey) := by
      intro l
      induction l with
      | nil => exact fun _ => .nil
      | cons v l ih =>
        intro h
        obtain ⟨k, u, rfl⟩ := h v List.mem_cons_self
        exact .cons k u (ih fun x hx => h x (List.mem_cons_of_mem _ hx))
    refine this vs fun v hv => ?_
    obtain ⟨e, he, q⟩ := List.mem_map.mp (pm.mem_iff.mp hv)
    obtain ⟨⟨k, hk, _⟩, _⟩ := g e he
    obtain ⟨u, hu⟩ := Value.isStrOf_shape hk
    exact ⟨k, u, by rw [← q]; exact hu⟩
  have pk : (vs.map tKey).Perm (mem tKey es) := by
    have q := pm.map tKey
    rw [List.map_map] at q
    exact q
  refine wpAny_bind (wpAny_newList ?_ (by rw [hvl, sizeLine_eq]; omega))
  have hoL : (s1.heap.push (seqObj "list" vs.toArray 0)).get? s1.heap.objs.size = some (seqObj "list" vs.toArray 0) := Heap.get?_push_size _ rfl
  refine wpAny_bind (wpAny_holding (wpAny_call_entry slot_list_sort ⟨_, hoL, rfl⟩ entry_list_sort (list_sort_treeK strKind_oneLt hoL hI.keysOf (fun v₁ v₂ rest e => keyKind_strs (by rw [← e]; exact hI)) (by rw [hvl]; exact h64) fun st' hp hs => ⟨_, rfl, ?_⟩) (args_list_sort _)))
  obtain ⟨zs, a1, a2, a3⟩ := sorted_out_str hI hp hs
  obtain ⟨c, hc⟩ := sortedHeap_at (vs := vs) (out := (arrOf st').map (·.2)) hoL
  have pn : zs.Perm (mem tKey es) := a2.trans pk
  refine wpAny_pure ⟨_, rfl, hQ _ s1.heap.objs.size _ c zs (fun b u e => ?_) g1 o1 hz hc a1 (sorted_asc a3 (pn.nodup_iff.mpr nd)) (fun k => by rw [pn.mem_iff, ← hm k]) ?_⟩
  · have q := k1 b u e
    have hlt := Heap.lt_size q
    show (sortedHeap (s1.heap.push (seqObj "list" vs.toArray 0)) s1.heap.objs.size vs _).get? b = some u
    rw [sortedHeap_old (Nat.ne_of_lt hlt) (by rw [size_push']; exact Nat.lt_succ_of_lt hlt)]
    exact Heap.get?_push_of_some _ q
  · rw [pn.length_eq]
    show (es.toList.map _).length = n
    rw [List.length_map, Array.length_toList]; exact hn
end
section
variable {X : Cx}
theorem setT_get {pins : List (Addr × Obj)} {σ : L2.St} {H : Hp} {s : Shared} {a : Addr} {S : Str → Bool} {n : Nat} (I : Inv X pins σ H s) (ha : H a = some (SetT X.prog X.w a S n)) : SetG (PySem.strKind X.prog X.w) tKey s.heap a S n := (I.hok a _ ha).1
/-- set(xs), xs a list or a tuple of texts -/
def rSetTx (K : PySem.W.Frag) (P : Program) (w : World) : List V → Hp → VK → Prop := fun xs H Q => ∃ (l : Addr) (zs : List Str), xs = [.ref l] ∧ (SqL K H l (zs.map V.str) ∨ SqT K H l (zs.map V.str)) ∧ zs.length < 1000 ∧
  ∀ (a : Addr) (n : Nat), n ≤ zs.length → (n = zs.length ↔ zs.Nodup) → H a = none → Q (.ref a) (upd H a (SetT P w a (fun j => decide (j ∈ zs)) n))
theorem strs_at {its : List Value} {zs : List Str} (rv : StrsAre its zs) : its.toArray.size = zs.length ∧ ∀ (i : Nat) (v : Value), its.toArray[i]? = some v → ∃ k, zs[i]? = some k ∧ Value.isStrOf k v = true ∧ v.scannable = true := by
  have hl := rv.len_eq
  refine ⟨by simpa using hl, fun i v hv => ?_⟩
  have hv' : its[i]? = some v := by simpa using hv
  have hi : i < zs.length := by rw [← hl]; exact (List.getElem?_eq_some_iff.mp hv').1
  obtain ⟨t, ht⟩ := rv.at (List.getElem?_eq_getElem hi)
  rw [hv'] at ht
  cases ht
  exact ⟨_, List.getElem?_eq_getElem hi, by show (zs[i] == zs[i]) = true; exact beq_self_eq_true _, rfl⟩
theorem cr_setTx (hc : X.calm = true) : CallR X (.type "set") (rSetTx X.K X.prog X.w) := by
  intro pins s σ H xs us Q I r h
  obtain ⟨l, zs, rfl, hs, hz, q⟩ := h
  rw [Vals.ref1 r]
  have hb : zs.length + 1 < scanBound := by unfold scanBound; omega
  rcases hs with hs | hs
  · obtain ⟨its, rv, pl, _⟩ := I.list hs
    obtain ⟨e1, e2⟩ := strs_at rv.strs
    refine call_set_List (knd := PySem.strKind X.prog X.w) (key := tKey) tKey_ok zs (I.ok.hd hc) pl.isList e1 e2 hb fun h' tk c R k => ?_
    obtain ⟨n1, n2⟩ := setG_size R
    exact ⟨.ref s.heap.objs.size, upd H s.heap.objs.size (SetT X.prog X.w s.heap.objs.size (fun j => decide (j ∈ zs)) c), I.laid (t' := tk) k (Nat.le_refl _) (setT_new R), rfl, q _ c n1 n2 (I.hok.fresh (Nat.le_refl _))⟩
  · obtain ⟨its, rv, pl, _⟩ := I.tuple hs
    obtain ⟨e1, e2⟩ := strs_at rv.strs
    refine call_set_Tuple (knd := PySem.strKind X.prog X.w) (key := tKey) tKey_ok zs (I.ok.hd hc) pl e1 e2 hb fun h' tk c R k => ?_
    obtain ⟨n1, n2⟩ := setG_size R
    exact ⟨.ref s.heap.objs.size, upd H s.heap.objs.size (SetT X.prog X.w s.heap.objs.size (fun j => decide (j ∈ zs)) c), I.laid (t' := tk) k (Nat.le_refl _) (setT_new R), rfl, q _ c n1 n2 (I.hok.fresh (Nat.le_refl _))⟩
/-- len(found) -/
def rLenTx (P : Program) (w : World) : List V → Hp → VK → Prop := fun xs H Q => ∃ (a : Addr) (S : Str → Bool) (n : Nat), xs = [.ref a] ∧ H a = some (SetT P w a S n) ∧ Q (.int n) H
theorem cr_lenTx : CallR X (.builtin "len") (rLenTx X.prog X.w) := by
  intro pins s σ H xs us Q I r h
  obtain ⟨a, S, n, rfl, ha, q⟩ := h
  rw [Vals.ref1 r]
  obtain ⟨o, es, ep, t, ⟨ho, hex, hd⟩, _, ⟨hb, hf, hn⟩, _⟩ := setT_get I ha
  have hb' : es.size < 4096 := Nat.lt_of_lt_of_le hb (by unfold scanBound; decide)
  subst hn
  exact PySem.call_len_set ho hex hd hf (by omega) ⟨.int _, H, I.tok _, ⟨_, rfl⟩, q⟩
/-- sorted(found), fewer than 64 -/
def rSortedTx (P : Program) (w : World) : List V → Hp → VK → Prop := fun vs H Q => ∃ (a : Addr) (S : Str → Bool) (n : Nat), vs = [V.ref a] ∧ H a = some (SetT P w a S n) ∧ n < 64 ∧
  ∀ (zs : List Str) (p : Addr), Asc zs → (∀ k, k ∈ zs ↔ S k = true) → zs.length = n → H p = none → Q (.ref p) (upd H p (.lst (zs.map V.str)))
theorem cr_sortedTx (hc : X.calm = true) : CallR X (.builtin "sorted") (rSortedTx X.prog X.w) := by
  intro pins s σ H vs us Q I r h
  obtain ⟨a, S, n, rfl, ha, h64, q⟩ := h
  have R := setT_get I ha
  rw [Vals.ref1 r]
  refine sorted_setG R (I.ok.hd hc) h64 fun s' p out c zs k g o hp hg hi hs hm hl => ?_
  have hlen : (zs.map V.str).length ≤ sizeLine := by rw [List.length_map, hl, sizeLine_eq]; omega
  have hn : H p = none := I.hok.fresh hp
  have J : Inv X pins σ (upd H p (.lst (zs.map V.str))) { s with heap := s'.heap, gens := s'.gens, drawn := s'.drawn, toks := s'.toks } :=
    I.call (ch := []) (Un.laid k hp hn) (I.hok.laid k hp ⟨hlen, out.toList, c, vals_of_strs hi, hg⟩) (by rw [g]; exact I.bare) (fun _ z => nomatch z)
  have e : s' = { s with heap := s'.heap, gens := s'.gens, drawn := s'.drawn, toks := s'.toks } := by
    cases s'
    cases s
    cases o
    rfl
  rw [e]
  exact ⟨.ref p, _, J, rfl, q zs p hs hm hl hn⟩
theorem setTxE (K : PySem.W.Frag) (P : Program) (w : World) (hc : X.calm = true) (hK : X.K = K := by rfl) (hP : X.prog = P := by rfl) (hw : X.w = w := by rfl) : CallR X (.type "set") (rSetTx K P w) := by
  subst hK; subst hP; subst hw; exact cr_setTx hc
theorem lenTxE (P : Program) (w : World) (hP : X.prog = P := by rfl) (hw : X.w = w := by rfl) : CallR X (.builtin "len") (rLenTx P w) := by
  subst hP; subst hw; exact cr_lenTx
theorem sortedTxE (P : Program) (w : World) (hc : X.calm = true) (hP : X.prog = P := by rfl) (hw : X.w = w := by rfl) : CallR X (.builtin "sorted") (rSortedTx P w) := by
  subst hP; subst hw; exact cr_sortedTx hc
end
end NV
/-! G1 -/
set_option Elab.async false
set_option linter.all false
set_option maxRecDepth 100000
set_option maxHeartbeats 400000
namespace NV
open PySem PySem.Spec PyProof.Rows L2
open C8 (pss_cut)
/-! ### what data are -/
def tyN : PyData → String
  | .none => "NoneType"
  | .bool _ => "bool"
  | .int _ => "int"
  | .str _ => "str"
  | .list _ => "list"
  | .tuple _ => "tuple"
  | .dict _ => "dict"
theorem rp_ty {K : PySem.W.Frag} {ex : List Addr} {H : Hp} : ∀ {d : PyData} {v : V}, Rp ex H d v → TyX K H v (.type (tyN d))
  | .none, _, h => by
    subst h
    exact .base .non
  | .bool b, _, h => by
    subst h
    exact .base (.bl b)
  | .int i, _, h => by
    subst h
    exact .base (.int i)
  | .str z, _, h => by
    subst h
    exact .base (.str z)
  | .list ds, _, ⟨a, xs, e, _, h1, _⟩ => by
    subst e
    exact .base (.lst h1)
  | .tuple ds, _, ⟨a, xs, e, _, h1, _⟩ => by
    subst e
    exact .base (.tup h1)
  | .dict kvs, _, ⟨_, a, e, _, h1⟩ => by
    subst e
    exact .base (.dK h1)
/-- isinstance of data -/
def isD (T : String) (d : PyData) : Bool := tyN d == T || (T == "int" && tyN d == "bool")
def isTys : List String := ["str", "int", "bool", "list", "tuple"]
theorem kit_isD : ∀ T ∈ isTys, ∀ d : PyData, kitB (tyN d) T = some (isD T d) := by
  have h : ∀ T ∈ isTys, ∀ t ∈ ["NoneType", "bool", "int", "str", "list", "tuple", "dict"], kitB t T = some (t == T || (T == "int" && t == "bool")) := by decide +kernel
  intro T hT d
  refine h T hT (tyN d) ?_
  cases d <;> simp [tyN]
def rIsD (T : String) : List V → Hp → VK → Prop := fun xs H Q => ∃ (v : V) (d : PyData) (ex : List Addr), xs = [v, .ty T] ∧ Rp ex H d v ∧ Q (.bl (isD T d)) H
theorem cr_isD {X : Cx} {T : String} (hT : T ∈ isTys) : CallR X (.builtin "isinstance") (rIsD T) := by
  intro pins s σ H xs us Q I r h
  obtain ⟨v, d, ex, rfl, hd, q⟩ := h
  exact call_isi pins s σ H _ us Q I r ⟨v, .ty T, _, _, isD T d, rfl, .ty T, rp_ty hd, kit_ty (kit_isD T hT d), q⟩
def rIsD2 (T U : String) : List V → Hp → VK → Prop := fun xs H Q => ∃ (v : V) (d : PyData) (ex : List Addr) (tp : Addr), xs = [v, .ref tp] ∧ H tp = some (.tup [.ty T, .ty U]) ∧ Rp ex H d v ∧ Q (.bl (isD T d || isD U d)) H
theorem cr_isD2 {X : Cx} {T U : String} (hT : T ∈ isTys) (hU : U ∈ isTys) : CallR X (.builtin "isinstance") (rIsD2 T U) := by
  intro pins s σ H xs us Q I r h
  obtain ⟨v, d, ex, tp, rfl, ht, hd, q⟩ := h
  refine call_isiT pins s σ H _ us Q I r ⟨v, tp, _, _, _, isD T d || isD U d, rfl, ht, .cons (.ty T) (.cons (.ty U) .nil), rp_ty hd, ?_, q⟩
  refine kitAny_cons (kit_ty (kit_isD T hT d)) (fun e => ?_) (fun e => by rw [e]; rfl)
  rw [e, Bool.false_or]
  exact kitAny_cons (kit_ty (kit_isD U hU d)) (fun e => by rw [e]; rfl) (fun e => e)
/-- a word of 1 to most signs, of any data -/
def wordD (most : Nat) (digits : Bool) : PyData → Bool
  | .str z => wordB most digits z
  | _ => false
theorem str_of_isD {d : PyData} (h : isD "str" d = true) : ∃ z, d = .str z := by
  cases d with
  | str z => exact ⟨z, rfl⟩
  | _ => exact absurd (show (_ : Bool) = true from h) (by simp [isD, tyN])
theorem wordD_no {d : PyData} {m : Nat} {b : Bool} (h : isD "str" d = false) : wordD m b d = false := by
  cases d with
  | str z => exact absurd h (by simp [isD, tyN])
  | _ => rfl
def digS (b : Bool) : Str := if b then "0123456789" else ""
theorem sign_in (b : Bool) (c : Nat) : decide (c ∈ (("abcdefghijklmnopqrstuvwxyz" : Str) ++ digS b).cps.toList) = isSign b c := by
  have h1 : (("abcdefghijklmnopqrstuvwxyz" : Str) ++ digS true).cps.toList = [97, 98, 99, 100, 101, 102, 103, 104, 105, 106, 107, 108, 109, 110, 111, 112, 113, 114, 115, 116, 117, 118, 119, 120, 121, 122, 48, 49, 50, 51, 52, 53, 54, 55, 56, 57] := by decide +kernel
  have h2 : (("abcdefghijklmnopqrstuvwxyz" : Str) ++ digS false).cps.toList = [97, 98, 99, 100, 101, 102, 103, 104, 105, 106, 107, 108, 109, 110, 111, 112, 113, 114, 115, 116, 117, 118, 119, 120, 121, 122] := by decide +kernel
  have e : ∀ {p q : Prop} [Decidable p] [Decidable q], (p ↔ q) → decide p = decide q := fun h => by simp [h]
  unfold isSign
  cases b with
  | true =>
    rw [h1, show ((decide (97 ≤ c) && decide (c ≤ 122)) || (true && (decide (48 ≤ c) && decide (c ≤ 57)))) = decide ((97 ≤ c ∧ c ≤ 122) ∨ (48 ≤ c ∧ c ≤ 57)) by simp]
    refine e ?_
    simp only [List.mem_cons, List.not_mem_nil, or_false]
    omega
  | false =>
    rw [h2, show ((decide (97 ≤ c) && decide (c ≤ 122)) || (false && (decide (48 ≤ c) && decide (c ≤ 57)))) = decide (97 ≤ c ∧ c ≤ 122) by simp]
    refine e ?_
    simp only [List.mem_cons, List.not_mem_nil, or_false]
    omega
/-- a comprehension over a text whose test and element change nothing -/
theorem lc_sign {tt : TT} {te : TE} {i : Nat} {σ : L2.St} {C : Addr} {z : Str} {H1 : Hp} {Qd : Hp → Prop} (p : Nat → Bool) (hz : z.cps.size < 1000)
    (htt : ∀ (c : Nat) (H : Hp) (Q : Bool → Hp → Prop), Q (p c) H → tt ((wipe σ [i]).set i (some (.str ⟨#[c]⟩))) H Q)
    (hte : ∀ (c : Nat) (H : Hp) (Q : V → Hp → Prop), Q (.str ⟨#[c]⟩) H → te ((wipe σ [i]).set i (some (.str ⟨#[c]⟩))) H Q) (hd : Qd (upd H1 C (.lst ((z.cps.toList.filter p).map fun c => V.str ⟨#[c]⟩)))) :
    ∃ W : Nat → Nat → Hp → Prop, (∃ m, W 0 m (upd H1 C (.lst []))) ∧ ∀ i' m H, W i' m H →
      ((Its z).stop i' H ∧ Qd H) ∨ ((Its z).go i' H ∧ ∃ Nx : Hp → Prop, (∀ H', Nx H' → ∃ m', m' < m ∧ W (i' + 1) m' H') ∧ ∀ x H', (Its z).yld i' H x H' → gName i x (wipe σ [i]) H' fun σ2 H2 => wipe σ2 [i] = wipe σ [i] ∧ tt σ2 H2 fun b H3 =>
        if b = true then te σ2 H3 fun y H4 => ∃ acc, H4 C = some (.lst acc) ∧ acc.length < sizeLine ∧ Nx (upd H4 C (.lst (acc ++ [y]))) else Nx H3) := by
  have hn : z.cps.toList.length = z.cps.size := Array.length_toList
  refine ⟨fun i' m H => m = z.cps.size - i' ∧ i' ≤ z.cps.size ∧ H = upd H1 C (.lst (((z.cps.toList.take i').filter p).map fun c => V.str ⟨#[c]⟩)), ⟨z.cps.size, by simp, Nat.zero_le _, rfl⟩, ?_⟩
  rintro i' m H ⟨rfl, hi, rfl⟩
  by_cases hlt : i' < z.cps.size
  · refine .inr ⟨hlt, fun H' => H' = upd H1 C (.lst (((z.cps.toList.take (i' + 1)).filter p).map fun c => V.str ⟨#[c]⟩)), fun H' e => ⟨z.cps.size - (i' + 1), by omega, rfl, hlt, e⟩, ?_⟩
    rintro x H' ⟨rfl, c, hc, rfl⟩
    have hc' : z.cps.toList[i']? = some c := by rw [Array.getElem?_toList]; exact hc
    have htk : z.cps.toList.take (i' + 1) = z.cps.toList.take i' ++ [c] := by rw [List.take_add_one, hc']; rfl
    refine ⟨wipe_again, htt c _ _ ?_⟩
    cases hp : p c with
    | true =>
      refine iteT (hte c _ _ ⟨_, upd_same, ?_, ?_⟩)
      · have h1 : ((z.cps.toList.take i').filter p).length ≤ (z.cps.toList.take i').length := List.length_filter_le _ _
        rw [List.length_take] at h1
        rw [List.length_map]
        exact small1000 (by omega)
      · rw [upd_upd, htk, List.filter_append, List.map_append, List.filter_cons_of_pos hp]
        rfl
    | false =>
      refine iteF ?_
      rw [htk, List.filter_append, List.filter_cons_of_neg (by rw [hp]; exact Bool.false_ne_true)]
      simp
  · have e : i' = z.cps.size := by omega
    subst e
    refine .inl ⟨Nat.le_refl _, ?_⟩
    rw [← hn, List.take_length]
    exact hd
theorem strOk_one {z : Str} {c : Nat} (h : PyData.strOk z = true) (hc : c ∈ z.cps.toList) : PyData.strOk ⟨#[c]⟩ = true := by
  unfold PyData.strOk at h ⊢
  rw [Array.all_eq_true_iff_forall_mem] at h
  have := h c (by simpa using hc)
  simpa using this
/-! ### lists of texts, compared -/
theorem dpAll_strs {K : PySem.W.Frag} {H : Hp} : ∀ zs : List Str, DpAll K H (zs.map V.str) (zs.map PyData.str)
  | [] => .nil
  | z :: zs => .cons (.str z) (dpAll_strs zs)
theorem lay_strs : ∀ zs : List Str, (∀ z ∈ zs, PyData.strOk z = true) → PyData.canLayAll0 (zs.map PyData.str) = true
  | [], _ => by simp [PyData.canLayAll0]
  | z :: zs, h => by
    have := lay_strs zs fun y hy => h y (List.mem_cons_of_mem _ hy)
    simp [PyData.canLayAll0, PyData.canLay0, this, h z List.mem_cons_self]
theorem depth_strs : ∀ zs : List Str, PyData.depthAll (zs.map PyData.str) = 0
  | [] => by simp [PyData.depthAll]
  | z :: zs => by
    have := depth_strs zs
    simp [PyData.depthAll, PyData.depth, this]
theorem shaped_strs (zs : List Str) (h : ∀ z ∈ zs, PyData.strOk z = true) : SeqAt.shaped (.list (zs.map PyData.str)) = true := by
  unfold SeqAt.shaped
  simp [PyData.canLay0, PyData.depth, lay_strs zs h, depth_strs]
theorem eqv_strs : ∀ zs ys : List Str, PyData.eqv (.list (zs.map PyData.str)) (.list (ys.map PyData.str)) = decide (zs = ys)
  | [], [] => by simp [PyData.eqv, PyData.eqvAll]
  | [], y :: ys => by simp [PyData.eqv, PyData.eqvAll]
  | z :: zs, [] => by simp [PyData.eqv, PyData.eqvAll]
  | z :: zs, y :: ys => by
    have := eqv_strs zs ys
    simp only [PyData.eqv] at this
    simp only [List.map_cons, PyData.eqv, PyData.eqvAll, this]
    by_cases h : z = y
    · simp [h]
    · simp [h]
theorem eq_strs {K : PySem.W.Frag} {H : Hp} {a b : Addr} {zs ys : List Str} {Q : VK} (ha : SqL K H a (zs.map V.str)) (hb : SqL K H b (ys.map V.str)) (oz : ∀ z ∈ zs, PyData.strOk z = true) (oy : ∀ z ∈ ys, PyData.strOk z = true) (q : Q (.bl (decide (zs = ys))) H) : rEqD K (.ref a) (.ref b) H Q := by
  refine ⟨_, _, .lst ha (dpAll_strs zs), .lst hb (dpAll_strs ys), shaped_strs zs oz, shaped_strs ys oy, ?_⟩
  rw [eqv_strs]
  exact q
end NV
/-! L2a -/
set_option Elab.async false
set_option linter.all false
set_option maxRecDepth 100000
set_option maxHeartbeats 400000
namespace NV
open PySem PySem.Spec PyProof.Rows L2
open C8 (pss_cut)
def rNeNil (K : PySem.W.Frag) : R2 := fun x y H Q => ∃ (a b : Addr) (xs : List V), x = .ref a ∧ y = .ref b ∧ SqL K H a xs ∧ SqL K H b [] ∧ Q (.bl (!xs.isEmpty)) H
theorem op_neNil {X : Cx} (K : PySem.W.Frag) (hu : X.A.units + 64 < cLine) (hK : X.K = K := by rfl) : OpR X (compareOp .NotEq) (rNeNil K) := by
  subst hK
  intro pins s σ H x y v u Q I rx ry h
  obtain ⟨a, b, xs, rfl, rfl, ha, hb, q⟩ := h
  cases xs with
  | nil => exact op_neD hu pins s σ H _ _ v u Q I rx ry ⟨.list [], .list [], .lst ha .nil, .lst hb .nil, by decide, by decide, q⟩
  | cons z zs =>
    obtain rfl : v = Value.ref a := rx
    obtain rfl : u = Value.ref b := ry
    obtain ⟨its, rv, pl, _⟩ := I.list ha
    obtain ⟨its2, rv2, pl2, _⟩ := I.list hb
    cases rv2
    have hsz : (its.toArray.size != ([] : List Value).toArray.size) = true := by
      have := rv.length
      simp at this
      simp
      intro e
      rw [e] at this
      simp at this
    exact SeqAt.RcNeAt.lists_lengths pl.isList pl2.isList hsz (by omega) _ _ _ _ ⟨.bl true, H, I, rfl, q⟩
/-! ### comprehensions whose test and element lay things -/
theorem lc_growT {K : PySem.W.Frag} {tt : TT} {te : TE} {i : Nat} {σ : L2.St} {C a : Addr} {xs : List V} {H1 : Hp} {Qd : Hp → Prop} (p : Nat → Bool) (f : Nat → V) (hS : SqT K H1 a xs) (nC : H1 C = none) (hz : xs.length < 1000)
    (htt : ∀ (j : Nat) (x : V) (H : Hp) (Q : Bool → Hp → Prop), xs[j]? = some x → Kp [C] H1 H → (∀ H', Kp [] H H' → Q (p j) H') → tt ((wipe σ [i]).set i (some x)) H Q)
    (hte : ∀ (j : Nat) (x : V) (H : Hp) (Q : V → Hp → Prop), xs[j]? = some x → p j = true → Kp [C] H1 H → (∀ H', Kp [] H H' → Q (f j) H') → te ((wipe σ [i]).set i (some x)) H Q)
    (hd : ∀ H', Kp [C] H1 H' → H' C = some (.lst (((List.range xs.length).filter p).map f)) → Qd H') :
    ∃ W : Nat → Nat → Hp → Prop, (∃ m, W 0 m (upd H1 C (.lst []))) ∧ ∀ i' m H, W i' m H →
      ((Itt K a).stop i' H ∧ Qd H) ∨ ((Itt K a).go i' H ∧ ∃ Nx : Hp → Prop, (∀ H', Nx H' → ∃ m', m' < m ∧ W (i' + 1) m' H') ∧ ∀ x H', (Itt K a).yld i' H x H' → gName i x (wipe σ [i]) H' fun σ2 H2 => wipe σ2 [i] = wipe σ [i] ∧ tt σ2 H2 fun b H3 =>
        if b = true then te σ2 H3 fun y H4 => ∃ acc, H4 C = some (.lst acc) ∧ acc.length < sizeLine ∧ Nx (upd H4 C (.lst (acc ++ [y]))) else Nx H3) := by
  have aC : a ≠ C ∨ True := .inr trivial
  have sq : ∀ {H : Hp}, Kp [C] H1 H → SqT K H a xs := fun {H} k => by
    by_cases e : a = C
    · subst e
      rcases hS with (h | ⟨o, h⟩) | h
      · rw [nC] at h; cases h
      · rw [nC] at h; cases h
      · exact .inr h
    · exact Kp.seqT k (by simpa using e) hS
  refine lc_tup (K := K) (a := a) (xs := xs) (fun j H' => Kp [C] H1 H' ∧ H' C = some (.lst (((List.range j).filter p).map f))) ⟨Kp.laid nC, upd_same⟩ (fun j H' _ e => sq e.1) (fun j x H' hx e => ?_) (fun H' e => hd H' e.1 e.2)
  obtain ⟨k1, e1⟩ := e
  have hj : j < xs.length := (List.getElem?_eq_some_iff.mp hx).1
  refine ⟨wipe_again, htt j x _ _ hx k1 fun H2 k2 => ?_⟩
  have e2 := k2 _ _ (by simp) e1
  have k12 : Kp [C] H1 H2 := k1.trans (k2.mono (by simp))
  cases hp : p j with
  | true =>
    refine iteT (hte j x _ _ hx hp k12 fun H3 k3 => ⟨_, k3 _ _ (by simp) e2, ?_, ?_⟩)
    · have h1 : ((List.range j).filter p).length ≤ (List.range j).length := List.length_filter_le _ _
      rw [List.length_range] at h1
      rw [List.length_map]
      exact small1000 (by omega)
    · refine ⟨(k12.trans (k3.mono (by simp))).trans (Kp.put (by simp)), ?_⟩
      rw [upd_same, List.range_succ, List.filter_append, List.map_append, List.filter_cons_of_pos hp]
      rfl
  | false =>
    refine iteF ⟨k12, ?_⟩
    rw [e2, List.range_succ, List.filter_append, List.filter_cons_of_neg (by rw [hp]; exact Bool.false_ne_true)]
    simp
end NV
/-! G3 -/
set_option Elab.async false
set_option linter.all false
set_option maxRecDepth 100000
set_option maxHeartbeats 400000
namespace NV
open PySem PySem.Spec PyProof.Rows L2
open C8 (pss_cut)
/-! ### data that are within bounds -/
mutual
def niceD : PyData → Bool
  | .none => true
  | .bool _ => true
  | .int i => decide (i.natAbs.log2 < 1920)
  | .str z => decide (z.length ≤ 100) && PyData.strOk z
  | .list ds => niceAll ds
  | .tuple ds => niceAll ds
  | .dict kvs => kvs.isEmpty
def niceAll : List PyData → Bool
  | [] => true
  | d :: ds => niceD d && niceAll ds
end
theorem nice_mem : ∀ {ds : List PyData} {d : PyData}, niceAll ds = true → d ∈ ds → niceD d = true
  | e :: ds, d, h, hd => by
    simp only [niceAll, Bool.and_eq_true] at h
    rcases List.mem_cons.mp hd with z | z
    · rw [z]; exact h.1
    · exact nice_mem h.2 z
theorem nice_str {z : Str} (h : niceD (.str z) = true) : z.length ≤ 100 ∧ PyData.strOk z = true := by
  simp only [niceD, Bool.and_eq_true, decide_eq_true_eq] at h
  exact h
theorem nice_tup {ds : List PyData} (h : niceD (.tuple ds) = true) : ∀ d ∈ ds, niceD d = true := by
  simp only [niceD] at h
  exact fun d hd => nice_mem h hd
theorem RpAll.length {ex : List Addr} {H : Hp} : ∀ {ds : List PyData} {vs : List V}, RpAll ex H ds vs → ds.length = vs.length
  | [], _, h => by subst h; rfl
  | d :: ds, _, ⟨v, ws, e, _, h2⟩ => by
    subst e
    rw [List.length_cons, List.length_cons, RpAll.length h2]
theorem RpAll.at {ex : List Addr} {H : Hp} : ∀ {ds : List PyData} {vs : List V} {j : Nat} {d : PyData}, RpAll ex H ds vs → ds[j]? = some d → ∃ v, vs[j]? = some v ∧ Rp ex H d v
  | [], _, j, d, _, hj => by simp at hj
  | e :: ds, _, 0, d, ⟨v, ws, ev, h1, _⟩, hj => by
    subst ev
    simp at hj
    subst hj
    exact ⟨v, rfl, h1⟩
  | e :: ds, _, j + 1, d, ⟨v, ws, ev, _, h2⟩, hj => by
    subst ev
    obtain ⟨u, hu, hr⟩ := RpAll.at h2 (by simpa using hj)
    exact ⟨u, by simpa using hu, hr⟩
/-- the texts among data -/
def textsOf : List PyData → List Str
  | [] => []
  | .str z :: ds => z :: textsOf ds
  | _ :: ds => textsOf ds
theorem texts_all {m : Nat} {b : Bool} {ex : List Addr} {H : Hp} : ∀ {ds : List PyData} {vs : List V}, RpAll ex H ds vs → ds.all (wordD m b) = true → vs = (textsOf ds).map V.str ∧ ds = (textsOf ds).map PyData.str
  | [], _, h, _ => by subst h; exact ⟨rfl, rfl⟩
  | d :: ds, _, ⟨v, ws, e, h1, h2⟩, ha => by
    subst e
    rw [List.all_cons, Bool.and_eq_true] at ha
    obtain ⟨e1, e2⟩ := texts_all h2 ha.2
    cases d with
    | str z =>
      obtain rfl : v = .str z := h1
      refine ⟨?_, ?_⟩
      · show V.str z :: ws = V.str z :: (textsOf ds).map V.str
        rw [← e1]
      · show PyData.str z :: ds = PyData.str z :: (textsOf ds).map PyData.str
        rw [← e2]
    | _ => exact absurd ha.1 (by simp [wordD])
/-- a rising tuple of least to 3 cells -/
def cellsD (least : Nat) : PyData → Bool
  | .tuple ds => decide (least ≤ ds.length) && decide (ds.length ≤ 3) && ds.all (wordD 4 false) && decide (Asc (textsOf ds))
  | _ => false
theorem tup_of_isD {d : PyData} (h : isD "tuple" d = true) : ∃ ds, d = .tuple ds := by
  cases d with
  | tuple ds => exact ⟨ds, rfl⟩
  | _ => exact absurd (show (_ : Bool) = true from h) (by simp [isD, tyN])
theorem cellsD_no {d : PyData} {l : Nat} (h : isD "tuple" d = false) : cellsD l d = false := by
  cases d with
  | tuple ds => exact absurd h (by simp [isD, tyN])
  | _ => rfl
end NV
/-! ReprEq -/
set_option Elab.async false
set_option linter.all false
set_option maxRecDepth 100000
set_option maxHeartbeats 600000
/-! which data show as a given plain text in quotes -/
namespace NV
open PySem PySem.Spec PyProof.Rows L2
open PySem.Builtin.Str (reprChar)
theorem cat_list (x y : Str) : (x ++ y).cps.toList = x.cps.toList ++ y.cps.toList := by
  show (x.cps ++ y.cps).toList = _
  rw [Array.toList_append]
theorem from_pre : ∀ (ts : List Str) (k : Nat) (acc : Str), ∃ r, (textFrom k acc ts).cps.toList = acc.cps.toList ++ r
  | [], k, acc => ⟨[], by show acc.cps.toList = _; rw [List.append_nil]⟩
  | t :: ts, k, acc => by
    obtain ⟨r, hr⟩ := from_pre ts (k + 1) (acc ++ (if k > 0 then ", " else "" : String) ++ t)
    refine ⟨(Str.ofString (if k > 0 then ", " else "")).cps.toList ++ t.cps.toList ++ r, ?_⟩
    show (textFrom (k + 1) (acc ++ (if k > 0 then ", " else "" : String) ++ t) ts).cps.toList = _
    rw [hr, cat_list, cat_list]
    simp only [List.append_assoc]
theorem char_own {q c : Nat} (h : 92 ∉ reprChar q c) : reprChar q c = [c] := by
  unfold reprChar at h ⊢
  split at h
  · simp at h
  split at h
  · simp at h
  split at h
  · simp at h
  split at h
  · simp at h
  split at h
  · simp_all
  split at h
  · simp at h
  split at h
  · simp at h
  · simp at h
theorem fold_list (q : Nat) : ∀ (l : List Nat) (acc : Array Nat), (l.foldl (fun out c => out ++ (reprChar q c).toArray) acc).toList = acc.toList ++ l.flatMap (reprChar q)
  | [], acc => by simp
  | c :: l, acc => by
    rw [List.foldl_cons, fold_list q l]
    simp
theorem repr_list (z : Str) : (reprText z).cps.toList = reprQuote z :: (z.cps.toList.flatMap (reprChar (reprQuote z)) ++ [reprQuote z]) := by
  unfold reprText
  show (Array.push _ _).toList = _
  rw [Array.toList_push, ← Array.foldl_toList, fold_list]
  simp
theorem flat_own {q : Nat} : ∀ {l m : List Nat}, 92 ∉ m → l.flatMap (reprChar q) = m → l = m
  | [], m, _, h => by simpa using h
  | c :: l, m, hm, h => by
    rw [List.flatMap_cons] at h
    have h1 : 92 ∉ reprChar q c := fun x => hm (by rw [← h]; exact List.mem_append_left _ x)
    rw [char_own h1] at h
    cases m with
    | nil => simp at h
    | cons b m =>
      simp only [List.cons_append, List.nil_append, List.cons.injEq] at h
      rw [h.1, flat_own (fun x => hm (List.mem_cons_of_mem _ x)) h.2]
/-- data that show as 'x', x without signs that are written otherwise -/
theorem shown_quoted {d : PyData} {x : Str} (h92 : 92 ∉ x.cps.toList) (h : d.shown.cps.toList = 39 :: (x.cps.toList ++ [39])) : d = .str x := by
  have hd : ∀ {c : Nat} {r : List Nat}, d.shown.cps.toList = c :: r → c = 39 := fun e => by
    rw [h] at e
    exact (List.cons.inj e).1.symm
  cases d with
  | none =>
    have e : PyData.none.shown.cps.toList = 78 :: [111, 110, 101] := by simp only [PyData.shown]; decide
    exact absurd (hd e) (by decide)
  | bool b =>
    cases b with
    | true =>
      have e : (PyData.bool true).shown.cps.toList = 84 :: [114, 117, 101] := by simp only [PyData.shown]; decide
      exact absurd (hd e) (by decide)
    | false =>
      have e : (PyData.bool false).shown.cps.toList = 70 :: [97, 108, 115, 101] := by simp only [PyData.shown]; decide
      exact absurd (hd e) (by decide)
  | int i =>
    have := int_text_free' 39 ⟨by decide, by decide⟩ i
    simp only [PyData.shown] at h
    rw [h] at this
    simp at this
  | str z =>
    simp only [PyData.shown] at h
    rw [repr_list] at h
    obtain ⟨h1, h2⟩ := List.cons.inj h
    have h3 := List.append_inj_left' h2 rfl
    have := flat_own h92 h3
    exact congrArg PyData.str (ext_toList this)
  | list ds =>
    obtain ⟨r, hr⟩ := from_pre (PyData.shownAll ds) 0 "["
    have e : (PyData.list ds).shown.cps.toList = 91 :: (r ++ [93]) := by
      simp only [PyData.shown]
      unfold listText
      rw [cat_list, hr]
      rfl
    exact absurd (hd e) (by decide)
  | tuple ds =>
    have e : ∃ r, (PyData.tuple ds).shown.cps.toList = 40 :: r := by
      simp only [PyData.shown]
      unfold tupleText
      rw [cat_list, cat_list]
      exact ⟨_, rfl⟩
    obtain ⟨r, e⟩ := e
    exact absurd (hd e) (by decide)
  | dict kvs =>
    have e : ∃ r, (PyData.dict kvs).shown.cps.toList = 123 :: r := by
      simp only [PyData.shown]
      unfold dictText
      rw [cat_list, cat_list]
      exact ⟨_, rfl⟩
    obtain ⟨r, e⟩ := e
    exact absurd (hd e) (by decide)
theorem shown_query {d : PyData} : d.shown = ("'query'" : Str) ↔ d = .str "query" := by
  refine ⟨fun h => shown_quoted (by decide) (by rw [h]; decide), fun h => ?_⟩
  subst h
  simp only [PyData.shown]
  decide +kernel
theorem shown_write {d : PyData} : d.shown = ("'write'" : Str) ↔ d = .str "write" := by
  refine ⟨fun h => shown_quoted (by decide) (by rw [h]; decide), fun h => ?_⟩
  subst h
  simp only [PyData.shown]
  decide +kernel
end NV
/-! G4 -/
set_option Elab.async false
set_option linter.all false
set_option maxRecDepth 100000
set_option maxHeartbeats 400000
namespace NV
open PySem PySem.Spec PyProof.Rows L2
open C8 (pss_cut)
mutual
theorem show_of_nice : ∀ d : PyData, niceD d = true → d.showable = true
  | .none, _ => by simp only [PyData.showable]
  | .bool _, _ => by simp only [PyData.showable]
  | .str _, _ => by simp only [PyData.showable]
  | .int i, h => by simpa only [PyData.showable, niceD] using h
  | .list ds, h => by
    simp only [niceD] at h
    simp only [PyData.showable]
    exact shows_of_nice ds h
  | .tuple ds, h => by
    simp only [niceD] at h
    simp only [PyData.showable]
    exact shows_of_nice ds h
  | .dict kvs, h => by
    simp only [niceD] at h
    cases kvs with
    | nil => simp only [PyData.showable, PyData.showableKv]
    | cons x r => simp at h
theorem shows_of_nice : ∀ ds : List PyData, niceAll ds = true → PyData.showableAll ds = true
  | [], _ => by simp only [PyData.showableAll]
  | d :: ds, h => by
    simp only [niceAll, Bool.and_eq_true] at h
    simp only [PyData.showableAll, Bool.and_eq_true]
    exact ⟨show_of_nice d h.1, shows_of_nice ds h.2⟩
end
/-! ### how long data show -/
mutual
def vol : PyData → Nat
  | .none => 5
  | .bool _ => 5
  | .int i => i.natAbs.log2 + 2
  | .str z => 10 * z.length + 2
  | .list ds => volAll ds + 3
  | .tuple ds => volAll ds + 3
  | .dict _ => 2
def volAll : List PyData → Nat
  | [] => 0
  | d :: ds => vol d + 2 + volAll ds
end
theorem join_le : ∀ ts : List Str, (Str.join ", " ts).length ≤ piled ts
  | [] => Nat.zero_le _
  | t :: ts => by
    have := join_length_add (t :: ts) (by simp)
    omega
theorem vol_nat {i : Int} : ((toString i : String) : Str).length ≤ i.natAbs.log2 + 2 := by
  have h := int_text_length_le (a := i) (k := i.natAbs.log2 + 1) (by omega) (by omega)
  rw [PySem.ofString_length]
  omega
theorem list_text_le : ∀ ts : List Str, (listText ts).length ≤ piled ts + 2
  | [] => by rw [listText_nil]; decide
  | t :: r => by
    have h := textFrom_length_pos r 1 (("[" : Str) ++ (if (0 : Nat) > 0 then ", " else "" : String) ++ t) (Nat.succ_pos 0)
    have e : ((("[" : Str) ++ (if (0 : Nat) > 0 then ", " else "" : String) ++ t)).length = 1 + t.length := by
      rw [strLen_append, strLen_append]
      rfl
    have e2 : (listText (t :: r)).length = (textFrom 1 (("[" : Str) ++ (if (0 : Nat) > 0 then ", " else "" : String) ++ t) r).length + 1 := by
      show (textFrom 1 (("[" : Str) ++ (if (0 : Nat) > 0 then ", " else "" : String) ++ t) r ++ "]").length = _
      rw [strLen_append]
      rfl
    rw [e2, h, e, piled_cons]
    omega
theorem tuple_text_le (ts : List Str) : (tupleText ts).length ≤ piled ts + 3 := by
  have h := join_le ts
  unfold tupleText
  rw [strLen_append, strLen_append]
  have e1 : ("(" : Str).length = 1 := rfl
  have e2 : (Str.ofString (if (ts.length == 1) = true then ",)" else ")")).length ≤ 2 := by split <;> decide
  omega
mutual
theorem shown_le : ∀ d : PyData, niceD d = true → d.shown.length ≤ vol d
  | .none, _ => by simp only [PyData.shown, vol]; decide
  | .bool b, _ => by simp only [PyData.shown, vol]; cases b <;> decide
  | .str z, h => by
    simp only [PyData.shown, vol]
    refine StrLaws.reprText_len z fun c hc => ?_
    have := (nice_str h).2
    unfold PyData.strOk at this
    rw [Array.all_eq_true_iff_forall_mem] at this
    have h2 := this c (by simpa using hc)
    have h3 : c < 0x110000 := by simpa using h2
    omega
  | .int i, h => by
    simp only [PyData.shown, vol]
    exact vol_nat
  | .list ds, h => by
    simp only [niceD] at h
    simp only [PyData.shown, vol]
    have h1 := piled_le ds h
    have h2 := list_text_le (PyData.shownAll ds)
    omega
  | .tuple ds, h => by
    simp only [niceD] at h
    simp only [PyData.shown, vol]
    have h1 := piled_le ds h
    have h2 := tuple_text_le (PyData.shownAll ds)
    omega
  | .dict kvs, h => by
    simp only [niceD] at h
    cases kvs with
    | nil => simp only [PyData.shown, PyData.shownKv, vol]; decide
    | cons x r => simp at h
theorem piled_le : ∀ ds : List PyData, niceAll ds = true → piled (PyData.shownAll ds) ≤ volAll ds
  | [], _ => by simp only [PyData.shownAll, volAll]; decide
  | d :: ds, h => by
    simp only [niceAll, Bool.and_eq_true] at h
    have h1 := shown_le d h.1
    have h2 := piled_le ds h.2
    simp only [PyData.shownAll, volAll]
    rw [piled_cons]
    omega
end
/-- data within all bounds -/
structure Good (d : PyData) : Prop where
  nice : niceD d = true
  deep : d.depth ≤ 64
  small : vol d ≤ 1000000
theorem Good.fits {d : PyData} (g : Good d) : d.shown.length ≤ sizeLine := by
  have := shown_le d g.nice
  have := g.small
  rw [sizeLine_eq]
  omega
theorem vol_mem : ∀ {ds : List PyData} {d : PyData}, d ∈ ds → vol d ≤ volAll ds
  | e :: ds, d, h => by
    simp only [volAll]
    rcases List.mem_cons.mp h with z | z
    · rw [z]; omega
    · have := vol_mem z
      omega
theorem shown_mem : ∀ {ds : List PyData} {d : PyData}, d ∈ ds → d.shown ∈ PyData.shownAll ds
  | e :: ds, d, h => by
    simp only [PyData.shownAll]
    rcases List.mem_cons.mp h with z | z
    · rw [z]; exact List.mem_cons_self
    · exact List.mem_cons_of_mem _ (shown_mem z)
theorem depth_mem : ∀ {ds : List PyData} {d : PyData}, d ∈ ds → d.depth ≤ PyData.depthAll ds
  | e :: ds, d, h => by
    simp only [PyData.depthAll]
    rcases List.mem_cons.mp h with z | z
    · rw [z]; exact Nat.le_max_left _ _
    · exact Nat.le_trans (depth_mem z) (Nat.le_max_right _ _)
theorem Good.item {ds : List PyData} {d : PyData} (g : Good (.tuple ds)) (h : d ∈ ds) : Good d := by
  refine ⟨nice_tup g.nice d h, ?_, ?_⟩
  · have h1 := g.deep
    simp only [PyData.depth] at h1
    have := depth_mem h
    omega
  · have h1 := g.small
    simp only [vol] at h1
    have := vol_mem h
    omega
def priceD : PyData → Bool
  | .none => true
  | .int i => decide (0 < i) && decide (i < 100)
  | _ => false
def strD (x : Str) (d : PyData) : Bool := match d with
  | .str z => decide (z = x)
  | _ => false
theorem strD_iff {x : Str} {d : PyData} : strD x d = true ↔ d = .str x := by
  cases d <;> simp [strD]
/-- an entry -/
def entryD : PyData → Bool
  | .tuple [k, i, c] => wordD 6 true i && strD "query" k && cellsD 1 c
  | .tuple [k, i, r, s, p] => wordD 6 true i && strD "write" k && cellsD 0 r && cellsD 1 s && priceD p
  | _ => false
theorem entryD_no {d : PyData} (h : isD "tuple" d = false) : entryD d = false := by
  cases d with
  | tuple ds => exact absurd h (by simp [isD, tyN])
  | _ => rfl
theorem entryD_short {ds : List PyData} (h : ds.length < 3) : entryD (.tuple ds) = false := by
  match ds, h with
  | [], _ => rfl
  | [_], _ => rfl
  | [_, _], _ => rfl
theorem ixD {K : PySem.W.Frag} {ex : List Addr} {H : Hp} {a : Addr} {xs : List V} {ds : List PyData} {d : PyData} {j : Nat} {i : Int} {Q : VK} (ei : i = (j : Int)) (ha : H a = some (.tup xs)) (hx : RpAll ex H ds xs) (hj : ds[j]? = some d) (q : ∀ v, Rp ex H d v → Q v H) : rIxT K (.ref a) (.int i) H Q := by
  obtain ⟨v, hv, hr⟩ := RpAll.at hx hj
  subst ei
  exact ⟨a, xs, _, v, rfl, rfl, .inl (.inl ha), atI_nat hv, q v hr⟩
theorem entryD_word {k i c : PyData} {r : List PyData} (h : wordD 6 true i = false) : entryD (.tuple (k :: i :: c :: r)) = false := by
  match r with
  | [] => show (wordD 6 true i && strD "query" k && cellsD 1 c) = false; rw [h]; rfl
  | [_] => rfl
  | [s, p] => show (wordD 6 true i && strD "write" k && cellsD 0 c && cellsD 1 s && priceD p) = false; rw [h]; rfl
  | _ :: _ :: _ :: _ => rfl
theorem entryD_kind {k i c : PyData} {r : List PyData} (h1 : strD "query" k = false) (h2 : strD "write" k = false) : entryD (.tuple (k :: i :: c :: r)) = false := by
  match r with
  | [] => show (wordD 6 true i && strD "query" k && cellsD 1 c) = false; rw [h1]; simp
  | [_] => rfl
  | [s, p] => show (wordD 6 true i && strD "write" k && cellsD 0 c && cellsD 1 s && priceD p) = false; rw [h2]; simp
  | _ :: _ :: _ :: _ => rfl
theorem entryD_size {k i c : PyData} {r : List PyData} (h : r.length ≠ 0) (h2 : r.length ≠ 2) : entryD (.tuple (k :: i :: c :: r)) = false := by
  match r, h, h2 with
  | [_], _, _ => rfl
  | _ :: _ :: _ :: _, _, _ => rfl
theorem dec_v (a b : Str) : decide (V.str a = V.str b) = decide (a = b) := by simp
def intP : PyData → Bool
  | .int z => decide (0 < z) && decide (z < 100)
  | _ => false
theorem price_val {σ : L2.St} {H : Hp} {Q : VK} {p : PyData} {vp : V} {ex : List Addr} (rp : Rp ex H p vp) (h : σ[1]? = some (some vp)) (q : Q (.bl (intP p)) H) :
    tAndV (tCB (rIsD "int") (tCons (tVar 1) (tCons (tC (V.ty "int")) tNil))) (tAndV (tNotV (tCB (rIsD "bool") (tCons (tVar 1) (tCons (tC (V.ty "bool")) tNil)))) (tChain (rI0 fun i j => V.bl (decide (i < j))) (rI0 fun i j => V.bl (decide (i < j))) (tC (V.int 0)) (tVar 1) (tC (V.int 100)))) σ H Q := by
  refine ⟨vp, h, vp, p, ex, rfl, rp, _, rfl, ?_⟩
  cases p with
  | int z =>
    obtain rfl : vp = .int z := rp
    refine iteT ⟨.int z, h, .int z, .int z, ex, rfl, rfl, _, rfl, _, rfl, ?_⟩
    refine iteT ⟨_, h, 0, z, rfl, rfl, _, rfl, ?_⟩
    have e : intP (.int z) = (decide (0 < z) && decide (z < 100)) := rfl
    rw [e] at q
    cases h1 : decide (0 < z) with
    | true =>
      rw [h1] at q
      exact iteT ⟨z, 100, rfl, rfl, q⟩
    | false =>
      rw [h1] at q
      exact iteF q
  | bool b =>
    obtain rfl : vp = .bl b := rp
    refine iteT ⟨.bl b, h, .bl b, .bool b, ex, rfl, rfl, _, rfl, _, rfl, ?_⟩
    exact iteF q
  | none => exact iteF q
  | str z => exact iteF q
  | list ds => exact iteF q
  | tuple ds => exact iteF q
  | dict kvs => exact iteF q
theorem price_eq {p : PyData} {vp : V} {ex : List Addr} {H : Hp} (rp : Rp ex H p vp) : priceD p = (decide (vp = .non) || intP p) := by
  cases p with
  | none =>
    obtain rfl : vp = .non := rp
    rfl
  | int z =>
    obtain rfl : vp = .int z := rp
    simp [priceD, intP]
  | bool b =>
    obtain rfl : vp = .bl b := rp
    simp [priceD, intP]
  | str z =>
    obtain rfl : vp = .str z := rp
    simp [priceD, intP]
  | list ds =>
    obtain ⟨a, xs, rfl, _⟩ := rp
    simp [priceD, intP]
  | tuple ds =>
    obtain ⟨a, xs, rfl, _⟩ := rp
    simp [priceD, intP]
  | dict kvs =>
    obtain ⟨_, a, rfl, _⟩ := rp
    simp [priceD, intP]
end NV
/-! G5 -/
set_option Elab.async false
set_option linter.all false
set_option maxRecDepth 100000
set_option maxHeartbeats 400000
namespace NV
open PySem PySem.Spec PyProof.Rows L2
open C8 (pss_cut)
/-- the id of an entry -/
def idOfD : PyData → Str
  | .tuple (_ :: .str z :: _) => z
  | _ => ""
def logD' : PyData → Bool
  | .tuple ds => decide (ds.length ≤ 60) && ds.all entryD && decide ((ds.map idOfD).Nodup)
  | _ => false
theorem logD'_no {d : PyData} (h : isD "tuple" d = false) : logD' d = false := by
  cases d with
  | tuple ds => exact absurd h (by simp [isD, tyN])
  | _ => rfl
/-- what an entry looks like -/
theorem entry_shape {d : PyData} (h : entryD d = true) : ∃ k z r, d = .tuple (k :: .str z :: r) ∧ idB z = true := by
  have word : ∀ {i : PyData}, wordD 6 true i = true → ∃ z, i = .str z ∧ idB z = true := fun {i} hw => by
    cases i with
    | str z => exact ⟨z, rfl, hw⟩
    | _ => exact absurd hw (by simp [wordD])
  match d, h with
  | .tuple [k, i, c], h =>
    have h : (wordD 6 true i && strD "query" k && cellsD 1 c) = true := h
    simp only [Bool.and_eq_true] at h
    obtain ⟨z, rfl, hz⟩ := word h.1.1
    exact ⟨k, z, _, rfl, hz⟩
  | .tuple [k, i, r, s, p], h =>
    have h : (wordD 6 true i && strD "write" k && cellsD 0 r && cellsD 1 s && priceD p) = true := h
    simp only [Bool.and_eq_true] at h
    obtain ⟨z, rfl, hz⟩ := word h.1.1.1.1
    exact ⟨k, z, _, rfl, hz⟩
  | .tuple [], h => exact absurd h (by simp [entryD])
  | .tuple [_], h => exact absurd h (by simp [entryD])
  | .tuple [_, _], h => exact absurd h (by simp [entryD])
  | .tuple [_, _, _, _], h => exact absurd h (by simp [entryD])
  | .tuple (_ :: _ :: _ :: _ :: _ :: _ :: _), h => exact absurd h (by simp [entryD])
  | .none, h => exact absurd h (by simp [entryD])
  | .bool _, h => exact absurd h (by simp [entryD])
  | .int _, h => exact absurd h (by simp [entryD])
  | .str _, h => exact absurd h (by simp [entryD])
  | .list _, h => exact absurd h (by simp [entryD])
  | .dict _, h => exact absurd h (by simp [entryD])
end NV
/-! G6 -/
set_option Elab.async false
set_option linter.all false
set_option maxRecDepth 100000
set_option maxHeartbeats 600000
namespace NV
open PySem PySem.Spec PyProof.Rows L2
open C8 (pss_cut)
def oddDs : List PyData := [.none, .bool true, .bool false, .int 0, .int 1, .int 99, .int 100, .int (-1), .str "", .str "a", .str "A", .str "abcd", .str "abcde", .str "zzzzzz", .str "zzzzzzz", .str "a b", .str "1", .dict [],
  .str "write", .str "query", .tuple [], .tuple [.str "a"], .tuple [.str "a", .str "b"], .tuple [.str "b", .str "a"], .tuple [.str "a", .str "a"], .tuple [.str "a", .str "b", .str "c", .str "q"], .list [.str "a"], .int (10 ^ 30)]
theorem odd_ok : ∀ d ∈ oddDs, niceD d = true ∧ d.depth ≤ 1 ∧ vol d ≤ 200 := by decide +kernel
theorem RpAll.back {ex : List Addr} {H : Hp} : ∀ {ds : List PyData} {vs : List V} {j : Nat} {v : V}, RpAll ex H ds vs → vs[j]? = some v → ∃ d, ds[j]? = some d ∧ Rp ex H d v
  | [], _, j, v, h, hj => by
    subst h
    simp at hj
  | e :: ds, _, 0, v, ⟨u, ws, ev, h1, _⟩, hj => by
    subst ev
    simp at hj
    subst hj
    exact ⟨e, rfl, h1⟩
  | e :: ds, _, j + 1, v, ⟨u, ws, ev, _, h2⟩, hj => by
    subst ev
    obtain ⟨d, hd, hr⟩ := RpAll.back h2 (by simpa using hj)
    exact ⟨d, by simpa using hd, hr⟩
theorem rp_new {ex : List Addr} {H : Hp} {p : Addr} {xs : List V} {ds : List PyData} (hp : p ∉ ex) (np : H p = none) (h : RpAll ex H ds xs) : Rp ex (upd H p (.tup xs)) (.tuple ds) (.ref p) := ⟨p, xs, rfl, hp, upd_same, RpAll.keep (Kp.laid np) _ _ h⟩
theorem rp_newL {ex : List Addr} {H : Hp} {p : Addr} {xs : List V} {ds : List PyData} (hp : p ∉ ex) (np : H p = none) (h : RpAll ex H ds xs) : Rp ex (upd H p (.lst xs)) (.list ds) (.ref p) := ⟨p, xs, rfl, hp, upd_same, RpAll.keep (Kp.laid np) _ _ h⟩
end NV
/-! G7 -/
set_option Elab.async false
set_option linter.all false
set_option maxRecDepth 100000
set_option maxHeartbeats 600000
namespace NV
open PySem PySem.Spec PyProof.Rows L2
open C8 (pss_cut)
/-! ### () == t, slices, sums of tuples of any length -/
def rEqNilT (K : PySem.W.Frag) : R2 := fun x y H Q => ∃ (a b : Addr) (xs : List V), x = .ref a ∧ y = .ref b ∧ SqT K H a xs ∧ SqT K H b [] ∧ Q (.bl xs.isEmpty) H
theorem op_eqNilT {X : Cx} (K : PySem.W.Frag) (hu : X.A.units + 64 < cLine) (hK : X.K = K := by rfl) : OpR X (compareOp .Eq) (rEqNilT K) := by
  subst hK
  intro pins s σ H x y v u Q I rx ry h
  obtain ⟨a, b, xs, rfl, rfl, ha, hb, q⟩ := h
  obtain rfl : v = Value.ref a := rx
  obtain rfl : u = Value.ref b := ry
  obtain ⟨its, rv, pl, _⟩ := I.tuple ha
  obtain ⟨its2, rv2, pl2, _⟩ := I.tuple hb
  cases rv2
  refine SeqAt.eq_tupleAt (e := fun _ => true) pl pl2 (by omega) (fun j h1 h2 => absurd h2 (by simp)) ⟨.bl xs.isEmpty, H, I, ?_, q⟩
  show Value.bool _ = Value.bool _
  have hl := rv.length
  cases xs with
  | nil =>
    cases its with
    | nil => rfl
    | cons z zs => simp at hl
  | cons y ys =>
    cases its with
    | nil => simp at hl
    | cons z zs => simp
theorem no_part {σ : L2.St} {H : Hp} {Q : Option Int → Hp → Prop} (h : Q none H) : tNoPart σ H Q := h
theorem slA {K : PySem.W.Frag} {ex : List Addr} {H : Hp} {a : Addr} {xs : List V} {lo hi : Option Int} {Q : VK} (ha : H a = some (.tup xs)) (na : a ∉ ex) (fr : ∀ p, H p = none → p ∉ ex)
    (q : ∀ p H', Kp [] H H' → H' p = some (.tup (cutV xs lo hi)) → p ∉ ex → Q (.ref p) H') : rSlA K (.ref a) lo hi H Q := by
  refine ⟨a, xs, rfl, .inl (.inl ha), fun w => q a H Kp.refl ?_ na, fun w p np => q p _ (Kp.laid np) upd_same (fr p np)⟩
  unfold cutV
  rw [w.1, w.2, List.drop_zero, Nat.sub_zero, List.take_length]
  exact ha
theorem catA {K : PySem.W.Frag} {ex : List Addr} {H : Hp} {a b : Addr} {xs ys : List V} {Q : VK} (ha : H a = some (.tup xs)) (hb : H b = some (.tup ys)) (na : a ∉ ex) (nb : b ∉ ex) (fr : ∀ p, H p = none → p ∉ ex) (hz : xs.length + ys.length ≤ sizeLine)
    (q : ∀ p H', Kp [] H H' → H' p = some (.tup (xs ++ ys)) → p ∉ ex → Q (.ref p) H') : rCatA K (.ref a) (.ref b) H Q := by
  refine ⟨a, b, xs, ys, rfl, rfl, .inl (.inl ha), .inl (.inl hb), hz, fun e => ?_, fun _ e => ?_, fun _ _ p np => q p _ (Kp.laid np) upd_same (fr p np)⟩
  · subst e
    exact q b H Kp.refl hb nb
  · subst e
    exact q a H Kp.refl (by rw [List.append_nil]; exact ha) na
theorem cut_from (xs : List V) (k : Nat) : cutV xs (some (k : Int)) none = xs.drop k := by
  unfold cutV
  rw [HT.sIx_none, HT.sIx_nat]
  rcases Nat.le_total k xs.length with h | h
  · rw [Nat.min_eq_left h, List.take_of_length_le (by rw [List.length_drop]; omega)]
  · rw [Nat.min_eq_right h, List.drop_length, List.drop_eq_nil_of_le h]
    simp
theorem cut_after (xs : List V) (k : Nat) : cutV xs (some ((k : Int) + 1)) none = xs.drop (k + 1) := cut_from xs (k + 1)
theorem cut_one (xs : List V) (k : Nat) : cutV xs (some (k : Int)) (some ((k : Int) + 1)) = (xs.drop k).take 1 := by
  unfold cutV
  rw [show (k : Int) + 1 = ((k + 1 : Nat) : Int) by omega, HT.sIx_nat, HT.sIx_nat]
  rcases Nat.lt_or_ge k xs.length with h | h
  · rw [Nat.min_eq_left (by omega), Nat.min_eq_left (by omega)]
    congr 1
    omega
  · rw [Nat.min_eq_right h, Nat.min_eq_right (by omega), List.drop_length, List.drop_eq_nil_of_le h]
    simp
/-! ### data cut and put together -/
theorem RpAll.cutT {ex : List Addr} {H : Hp} : ∀ {ds : List PyData} {xs : List V} (k : Nat), RpAll ex H ds xs → RpAll ex H (ds.take k) (xs.take k) ∧ RpAll ex H (ds.drop k) (xs.drop k)
  | ds, xs, 0, h => by
    refine ⟨?_, ?_⟩
    · show RpAll ex H [] _
      rfl
    · simpa using h
  | [], _, k + 1, h => by
    subst h
    exact ⟨rfl, rfl⟩
  | d :: ds, _, k + 1, ⟨v, ws, e, h1, h2⟩ => by
    subst e
    obtain ⟨a, b⟩ := RpAll.cutT k h2
    exact ⟨⟨v, ws.take k, rfl, h1, a⟩, b⟩
theorem nice_of_mem : ∀ {ds : List PyData}, (∀ d ∈ ds, niceD d = true) → niceAll ds = true
  | [], _ => by simp only [niceAll]
  | d :: ds, h => by
    simp only [niceAll, Bool.and_eq_true]
    exact ⟨h d List.mem_cons_self, nice_of_mem fun e he => h e (List.mem_cons_of_mem _ he)⟩
theorem depth_of_mem {m : Nat} : ∀ {ds : List PyData}, (∀ d ∈ ds, d.depth ≤ m) → PyData.depthAll ds ≤ m
  | [], _ => by simp only [PyData.depthAll]; omega
  | d :: ds, h => by
    simp only [PyData.depthAll]
    exact Nat.max_le.mpr ⟨h d List.mem_cons_self, depth_of_mem fun e he => h e (List.mem_cons_of_mem _ he)⟩
theorem vol_app : ∀ (ds es : List PyData), volAll (ds ++ es) = volAll ds + volAll es
  | [], es => by simp only [List.nil_append, volAll]; omega
  | d :: ds, es => by
    simp only [List.cons_append, volAll, vol_app ds es]
    omega
theorem vol_cut (ds : List PyData) (k : Nat) : volAll (ds.take k) + volAll (ds.drop k) = volAll ds := by
  rw [← vol_app, List.take_append_drop]
theorem vol_at {ds : List PyData} {k : Nat} {d : PyData} (h : ds[k]? = some d) : volAll (ds.drop k) = vol d + 2 + volAll (ds.drop (k + 1)) := by
  obtain ⟨hk, rfl⟩ := List.getElem?_eq_some_iff.mp h
  rw [List.drop_eq_getElem_cons hk]
  simp only [volAll]
theorem len_vol : ∀ ds : List PyData, ds.length ≤ volAll ds
  | [] => Nat.zero_le _
  | d :: ds => by
    have := len_vol ds
    simp only [volAll, List.length_cons]
    omega
end NV
/-! L8 -/
set_option Elab.async false
set_option linter.all false
set_option maxRecDepth 100000
set_option maxHeartbeats 600000
/-! what the law's logs are as data -/
namespace NV
open PySem PySem.Spec PyProof.Rows L2
theorem texts_map : ∀ zs : List Str, textsOf (zs.map PyData.str) = zs
  | [] => rfl
  | z :: zs => by
    show z :: textsOf (zs.map PyData.str) = _
    rw [texts_map zs]
theorem cells_data {l : Nat} {cs : List Str} (h : CellsOk l cs) : cellsD l (.tuple (cs.map .str)) = true := by
  show (decide (l ≤ (cs.map PyData.str).length) && decide ((cs.map PyData.str).length ≤ 3) && (cs.map PyData.str).all (wordD 4 false) && decide (Asc (textsOf (cs.map PyData.str)))) = true
  rw [texts_map, List.length_map, decide_eq_true h.lo, decide_eq_true h.hi, decide_eq_true h.asc, Bool.and_true, Bool.true_and, Bool.true_and, List.all_eq_true]
  intro d hd
  obtain ⟨z, hz, rfl⟩ := List.mem_map.mp hd
  exact h.ok z hz
theorem entry_data {e : Ent} (h : e.Ok) : entryD e.data = true := by
  cases e with
  | wr id rs ws pr =>
    obtain ⟨h1, h2, h3, h4⟩ := h
    show (wordD 6 true (.str id) && strD "write" (.str "write") && cellsD 0 (.tuple (rs.map .str)) && cellsD 1 (.tuple (ws.map .str)) && priceD (prD pr)) = true
    have hp : priceD (prD pr) = true := by
      cases pr with
      | none => rfl
      | some i =>
        obtain ⟨a, b⟩ := h4 i rfl
        show (decide (0 < i) && decide (i < 100)) = true
        simp
        omega
    rw [cells_data h2, cells_data h3, hp, show wordD 6 true (.str id) = true from h1, strD_iff.mpr rfl]
    rfl
  | qu id cs =>
    obtain ⟨h1, h2⟩ := h
    show (wordD 6 true (.str id) && strD "query" (.str "query") && cellsD 1 (.tuple (cs.map .str))) = true
    rw [cells_data h2, show wordD 6 true (.str id) = true from h1, strD_iff.mpr rfl]
    rfl
theorem id_data (e : Ent) : idOfD e.data = e.id := by cases e <;> rfl
theorem ids_data (es : List Ent) : (es.map Ent.data).map idOfD = es.map Ent.id := by
  rw [List.map_map]
  exact List.map_congr_left fun e _ => id_data e
/-- a list of right entries is a log if few and of different ids -/
theorem log_data {es : List Ent} (h : ∀ e ∈ es, e.Ok) : logD' (.tuple (es.map Ent.data)) = (decide (es.length ≤ 60) && decide ((es.map Ent.id).Nodup)) := by
  show (decide ((es.map Ent.data).length ≤ 60) && (es.map Ent.data).all entryD && decide (((es.map Ent.data).map idOfD).Nodup)) = _
  have e2 : (es.map Ent.data).all entryD = true := by
    rw [List.all_eq_true]
    intro d hd
    obtain ⟨e, he, rfl⟩ := List.mem_map.mp hd
    exact entry_data (h e he)
  rw [ids_data, e2, Bool.and_true, List.length_map]
theorem word_len {m : Nat} {b : Bool} {z : Str} (h : wordB m b z = true) : z.length ≤ m ∧ PyData.strOk z = true := by
  have h : (decide (1 ≤ z.cps.size) && decide (z.cps.size ≤ m) && z.cps.toList.all (isSign b)) = true := h
  simp only [Bool.and_eq_true, decide_eq_true_eq, List.all_eq_true] at h
  refine ⟨h.1.2, ?_⟩
  unfold PyData.strOk
  rw [Array.all_eq_true_iff_forall_mem]
  intro c hc
  have := h.2 c (by simpa using hc)
  unfold isSign at this
  simp at this
  simp
  omega
theorem nice_word {m : Nat} {b : Bool} {z : Str} (hm : m ≤ 100) (h : wordB m b z = true) : niceD (.str z) = true := by
  obtain ⟨h1, h2⟩ := word_len h
  simp only [niceD, Bool.and_eq_true, decide_eq_true_eq]
  exact ⟨by omega, h2⟩
theorem cells_nice {l : Nat} {cs : List Str} (h : CellsOk l cs) : niceD (.tuple (cs.map .str)) = true ∧ PyData.depth (.tuple (cs.map .str)) ≤ 1 ∧ vol (.tuple (cs.map .str)) ≤ 135 := by
  refine ⟨?_, ?_, ?_⟩
  · simp only [niceD]
    refine nice_of_mem fun d hd => ?_
    obtain ⟨z, hz, rfl⟩ := List.mem_map.mp hd
    exact nice_word (by decide) (h.ok z hz)
  · simp only [PyData.depth]
    have := depth_of_mem (m := 0) (ds := cs.map PyData.str) fun d hd => by
      obtain ⟨z, hz, rfl⟩ := List.mem_map.mp hd
      simp [PyData.depth]
    omega
  · have : ∀ zs : List Str, (∀ z ∈ zs, cellB z = true) → volAll (zs.map PyData.str) ≤ 44 * zs.length := by
      intro zs
      induction zs with
      | nil => intro _; simp [volAll]
      | cons z zs ih =>
        intro hz
        have h1 := (word_len (hz z List.mem_cons_self)).1
        have h2 := ih fun y hy => hz y (List.mem_cons_of_mem _ hy)
        simp only [List.map_cons, volAll, vol, List.length_cons]
        omega
    have h3 := this cs h.ok
    have h4 := h.hi
    simp only [vol]
    omega
theorem entry_nice {e : Ent} (h : e.Ok) : niceD e.data = true ∧ e.data.depth ≤ 2 ∧ vol e.data ≤ 410 := by
  cases e with
  | wr id rs ws pr =>
    obtain ⟨h1, h2, h3, h4⟩ := h
    obtain ⟨a1, a2, a3⟩ := cells_nice h2
    obtain ⟨b1, b2, b3⟩ := cells_nice h3
    have i1 := nice_word (by decide) h1
    have i2 := (word_len h1).1
    have p : niceD (prD pr) = true ∧ (prD pr).depth = 0 ∧ vol (prD pr) ≤ 10 := by
      cases pr with
      | none => simp [prD, niceD, PyData.depth, vol]
      | some i =>
        obtain ⟨a, b⟩ := h4 i rfl
        have : i.natAbs.log2 < 7 := (Nat.log2_lt (by omega)).mpr (by omega)
        simp only [prD, niceD, PyData.depth, vol, decide_eq_true_eq]
        exact ⟨by omega, trivial, by omega⟩
    obtain ⟨p1, p2, p3⟩ := p
    refine ⟨?_, ?_, ?_⟩
    · show niceD (.tuple [.str "write", .str id, .tuple (rs.map .str), .tuple (ws.map .str), prD pr]) = true
      have w1 : niceD (.str "write") = true := by decide +kernel
      simp only [niceD, niceAll] at a1 b1 i1 w1 ⊢
      rw [a1, b1, i1, w1, p1]
      rfl
    · show PyData.depth (.tuple [.str "write", .str id, .tuple (rs.map .str), .tuple (ws.map .str), prD pr]) ≤ 2
      simp only [PyData.depth, PyData.depthAll] at a2 b2 ⊢
      omega
    · show vol (.tuple [.str "write", .str id, .tuple (rs.map .str), .tuple (ws.map .str), prD pr]) ≤ 410
      have w1 : vol (.str "write") = 52 := by decide
      have w2 : vol (.str id) ≤ 62 := by simp only [vol]; omega
      simp only [vol, volAll] at a3 b3 w1 w2 ⊢
      omega
  | qu id cs =>
    obtain ⟨h1, h2⟩ := h
    obtain ⟨a1, a2, a3⟩ := cells_nice h2
    have i1 := nice_word (by decide) h1
    have i2 := (word_len h1).1
    refine ⟨?_, ?_, ?_⟩
    · show niceD (.tuple [.str "query", .str id, .tuple (cs.map .str)]) = true
      have w1 : niceD (.str "query") = true := by decide +kernel
      simp only [niceD, niceAll] at a1 i1 w1 ⊢
      rw [a1, i1, w1]
      rfl
    · show PyData.depth (.tuple [.str "query", .str id, .tuple (cs.map .str)]) ≤ 2
      simp only [PyData.depth, PyData.depthAll] at a2 ⊢
      omega
    · show vol (.tuple [.str "query", .str id, .tuple (cs.map .str)]) ≤ 410
      have w1 : vol (.str "query") = 52 := by decide
      have w2 : vol (.str id) ≤ 62 := by simp only [vol]; omega
      simp only [vol, volAll] at a3 w1 w2 ⊢
      omega
theorem log_nice {es : List Ent} (h : ∀ e ∈ es, e.Ok) : niceD (.tuple (es.map Ent.data)) = true ∧ PyData.depth (.tuple (es.map Ent.data)) ≤ 3 ∧ vol (.tuple (es.map Ent.data)) ≤ 412 * es.length + 3 := by
  refine ⟨?_, ?_, ?_⟩
  · simp only [niceD]
    refine nice_of_mem fun d hd => ?_
    obtain ⟨e, he, rfl⟩ := List.mem_map.mp hd
    exact (entry_nice (h e he)).1
  · simp only [PyData.depth]
    have := depth_of_mem (m := 2) (ds := es.map Ent.data) fun d hd => by
      obtain ⟨e, he, rfl⟩ := List.mem_map.mp hd
      exact (entry_nice (h e he)).2.1
    omega
  · simp only [vol]
    have : ∀ l : List Ent, (∀ e ∈ l, e.Ok) → volAll (l.map Ent.data) ≤ 412 * l.length := by
      intro l
      induction l with
      | nil => intro _; simp [volAll]
      | cons e l ih =>
        intro hl
        have h1 := (entry_nice (hl e List.mem_cons_self)).2.2
        have h2 := ih fun y hy => hl y (List.mem_cons_of_mem _ hy)
        simp only [List.map_cons, volAll, List.length_cons]
        omega
    have := this es h
    omega
/-- the first entry put in place of the one at k: a log only where it was there -/
theorem dup_ids {es : List Ent} {k : Nat} (nd : (es.map Ent.id).Nodup) (hk : k < es.length) : ((es.take k ++ es.take 1 ++ es.drop (k + 1)).map Ent.id).Nodup ↔ k = 0 := by
  cases es with
  | nil => simp at hk
  | cons x l =>
    constructor
    · intro h
      cases k with
      | zero => rfl
      | succ k =>
        exfalso
        simp only [List.take_succ_cons, List.take_zero, List.cons_append, List.map_cons, List.nodup_cons] at h
        refine h.1 ?_
        simp
    · intro e
      subst e
      simpa using nd
end NV
/-! TxtId -/
set_option Elab.async false
set_option linter.all false
set_option maxRecDepth 100000
set_option maxHeartbeats 600000
/-! an id by isascii, isalnum, lower; a cell by isalpha -/
namespace NV
open PySem PySem.Spec PyProof.Rows L2
def lowA (c : Nat) : Nat := if 65 ≤ c && c ≤ 90 then c + 32 else c
theorem lowerOf_ascii : ∀ c, c < 128 → Unicode.lowerOf c = [lowA c] := by decide +kernel
theorem alnum_ascii : ∀ c, c < 128 → (Unicode.isAlnum c && decide (lowA c = c)) = isSign true c := by decide +kernel
theorem alpha_ascii : ∀ c, c < 128 → isSign true c = true → Unicode.isAlpha c = isSign false c := by decide +kernel
theorem sign_small {b : Bool} {c : Nat} (h : isSign b c = true) : c < 128 := by
  unfold isSign at h
  simp only [Bool.or_eq_true, Bool.and_eq_true, decide_eq_true_eq] at h
  omega
theorem lower_list {z : Str} (h : ∀ c ∈ z.cps.toList, c < 128) : (Txt.lower z).cps.toList = z.cps.toList.map lowA := by
  show (z.cps.mapIdx fun i c => (Unicode.lowerAt z.cps i).toArray).flatten.toList = _
  rw [Array.toList_flatten, Array.toList_mapIdx]
  have e : ∀ i (hi : i < z.cps.toList.length), Unicode.lowerAt z.cps i = [lowA z.cps.toList[i]] := fun i hi => by
    have hi' : i < z.cps.size := by simpa using hi
    have hc := h _ (List.getElem_mem hi)
    unfold Unicode.lowerAt
    rw [Array.getElem?_eq_getElem hi']
    have e2 : z.cps[i] = z.cps.toList[i] := by simp
    rw [e2]
    dsimp only
    rw [if_neg, lowerOf_ascii _ hc]
    intro q
    rw [Bool.and_eq_true, beq_iff_eq] at q
    rw [q.1] at hc
    exact absurd hc (by decide)
  have e3 : (z.cps.toList.mapIdx fun i c => (Unicode.lowerAt z.cps i).toArray).map Array.toList = z.cps.toList.map fun c => [lowA c] := by
    refine List.ext_getElem (by simp) fun i h1 h2 => ?_
    have hi : i < z.cps.toList.length := by simpa using h1
    rw [List.getElem_map, List.getElem_mapIdx, List.getElem_map]
    rw [e i hi]
  rw [e3]
  generalize z.cps.toList = l
  induction l with
  | nil => rfl
  | cons a l ih => rw [List.map_cons, List.flatten_cons, ih]; rfl
theorem map_same : ∀ {l : List Nat}, l = l.map lowA ↔ l.all (fun c => decide (lowA c = c)) = true
  | [] => by simp
  | a :: l => by
    rw [List.map_cons, List.all_cons, Bool.and_eq_true, decide_eq_true_eq, ← map_same (l := l)]
    constructor
    · intro e
      injection e with e1 e2
      exact ⟨e1.symm, e2⟩
    · rintro ⟨e1, e2⟩
      rw [e1, ← e2]
theorem id_text {z : Str} (h : 1 ≤ z.length) : (Txt.isascii z && (Txt.isalnum z && decide (V.str z = V.str (Txt.lower z)))) = z.cps.toList.all (isSign true) := by
  have ea : Txt.isascii z = z.cps.toList.all (fun c => decide (c < 128)) := by
    show z.cps.all _ = _
    rw [← Array.all_toList]
  rw [ea]
  cases h1 : z.cps.toList.all (fun c => decide (c < 128)) with
  | false =>
    rw [Bool.false_and]
    symm
    rw [← Bool.not_eq_true, List.all_eq_true] at h1 ⊢
    exact fun q => h1 fun c hc => decide_eq_true (sign_small (q c hc))
  | true =>
    have hs : ∀ c ∈ z.cps.toList, c < 128 := fun c hc => of_decide_eq_true (List.all_eq_true.mp h1 c hc)
    have el : Txt.isalnum z = z.cps.toList.all Unicode.isAlnum := by
      show (decide (z.length > 0) && z.cps.all _) = _
      rw [decide_eq_true (show z.length > 0 by omega), Bool.true_and, ← Array.all_toList]
    have eq : decide (V.str z = V.str (Txt.lower z)) = z.cps.toList.all (fun c => decide (lowA c = c)) := by
      rw [Bool.eq_iff_iff, decide_eq_true_eq, ← map_same, ← lower_list hs]
      constructor
      · intro e
        injection e with e
        exact congrArg (fun y : Str => y.cps.toList) e
      · intro e
        exact congrArg V.str (ext_toList e)
    rw [Bool.true_and, el, eq]
    generalize z.cps.toList = l at hs ⊢
    induction l with
    | nil => rfl
    | cons a l ih =>
      have hd := alnum_ascii a (hs a List.mem_cons_self)
      have tl := ih fun c hc => hs c (List.mem_cons_of_mem _ hc)
      rw [List.all_cons, List.all_cons, List.all_cons, ← hd, ← tl]
      cases Unicode.isAlnum a <;> cases decide (lowA a = a) <;> simp
theorem alpha_text {z : Str} (h : 1 ≤ z.length) (hs : z.cps.toList.all (isSign true) = true) : Txt.isalpha z = z.cps.toList.all (isSign false) := by
  show (decide (z.length > 0) && z.cps.all _) = _
  rw [decide_eq_true (show z.length > 0 by omega), Bool.true_and, ← Array.all_toList]
  have hs := List.all_eq_true.mp hs
  generalize z.cps.toList = l at hs ⊢
  induction l with
  | nil => rfl
  | cons a l ih =>
    have q := hs a List.mem_cons_self
    rw [List.all_cons, List.all_cons, alpha_ascii a (sign_small q) q, ih fun c hc => hs c (List.mem_cons_of_mem _ hc)]
theorem all_weak {z : Str} (h : z.cps.toList.all (isSign false) = true) : z.cps.toList.all (isSign true) = true := by
  rw [List.all_eq_true] at h ⊢
  intro c hc
  have := h c hc
  unfold isSign at this ⊢
  simp only [Bool.or_eq_true, Bool.and_eq_true, decide_eq_true_eq, Bool.false_eq_true, false_and, or_false] at this
  simp only [Bool.or_eq_true, Bool.and_eq_true, decide_eq_true_eq]
  exact .inl this
end NV
/-! Q1 -/
set_option Elab.async false
set_option linter.all false
set_option maxRecDepth 100000
set_option maxHeartbeats 600000
/-! the package's is_integer_within, is_price, is_id, is_cell -/
namespace NV
open PySem PySem.Spec PyProof.Rows L2
open C8 (pss_cut pe_gc)
abbrev sIsIntegerWithin : Stmt := topS 21
theorem scIsIntegerWithin : FnScope ["value", "lowest", "highest"] ["value", "lowest", "highest"] (defScope sIsIntegerWithin) := ⟨rfl, rfl, rfl, by decide +kernel, rfl, by decide +kernel, by decide +kernel⟩
abbrev sIsId : Stmt := topS 22
theorem scIsId : FnScope ["value"] ["value"] (defScope sIsId) := ⟨rfl, rfl, rfl, by decide +kernel, rfl, by decide +kernel, by decide +kernel⟩
abbrev sIsCell : Stmt := topS 23
theorem scIsCell : FnScope ["value"] ["value"] (defScope sIsCell) := ⟨rfl, rfl, rfl, by decide +kernel, rfl, by decide +kernel, by decide +kernel⟩
abbrev sIsPrice : Stmt := topS 25
theorem scIsPrice : FnScope ["value"] ["value"] (defScope sIsPrice) := ⟨rfl, rfl, rfl, by decide +kernel, rfl, by decide +kernel, by decide +kernel⟩
/-- an int from lo to hi -/
def withinD (lo hi : Int) : PyData → Bool
  | .int i => decide (lo ≤ i) && decide (i ≤ hi)
  | _ => false
def spWithin : Sp := fun vs H Q _ => ∃ (v : V) (d : PyData) (ex : List Addr) (lo hi : Int), vs = [v, .int lo, .int hi] ∧ Rp ex H d v ∧ Q (.bl (withinD lo hi d)) H
/-- a predicate of data, asked by a def that leaves the memory as it is -/
def spIs (f : PyData → Bool) : Sp := fun vs H Q _ => ∃ (v : V) (d : PyData) (ex : List Addr), vs = [v] ∧ Rp ex H d v ∧ niceD d = true ∧ Q (.bl (f d)) H
theorem int_or {d : PyData} (h : isD "int" d = true) : (∃ i, d = .int i) ∨ ∃ b, d = .bool b := by
  cases d with
  | int i => exact .inl ⟨i, rfl⟩
  | bool b => exact .inr ⟨b, rfl⟩
  | _ => exact absurd h (by simp [isD, tyN])
section
variable {P : Program} {w : World} {K : PySem.W.Frag} {mg : Str → Option Value} {base : Heap}
theorem ok_pwithin (DIsIntegerWithin : Fn K mg "is_integer_within" sIsIntegerWithin ["value", "lowest", "highest"]) (b_isinstance : mg "isinstance" = none) (b_int : mg "int" = none) (b_bool : mg "bool" = none) :
    FnOk P w K mg base CX0 1 DIsIntegerWithin.f DIsIntegerWithin.fd ["value", "lowest", "highest"] spWithin := by
  refine DIsIntegerWithin.F.ok scIsIntegerWithin (fun vs H Q E h => ?_) (fun cdv A outer s H vs Q E hr h => ?_)
  · obtain ⟨v, d, ex, lo, hi, rfl, _⟩ := h
    rfl
  obtain ⟨v, d, ex, lo, hi, rfl, hd, q⟩ := h
  refine ⟨_, pss_one (ps_ret (pe_and (pe_callB (cr_isD (T := "int") (by decide)) (by rfl) b_isinstance (by decide +kernel) (pa_cons (pv 0) (pa_cons (pe_bltn (v := .ty "int") rfl b_int (by rfl) rfl) pa_nil))) (pe_and (pe_not (pe_callB (cr_isD (T := "bool") (by decide)) (by rfl) b_isinstance (by decide +kernel) (pa_cons (pv 0) (pa_cons (pe_bltn (v := .ty "bool") rfl b_bool (by rfl) rfl) pa_nil)))) (pe_one (pe_chain op_le op_le (pv 1) (pv 0) (pv 2)))))), ?_⟩
  refine ⟨_, rfl, v, d, ex, rfl, hd, _, rfl, ?_⟩
  cases hs : isD "int" d with
  | false =>
    refine iteF ?_
    have e : withinD lo hi d = false := by
      cases d with
      | int i => exact absurd hs (by simp [isD, tyN])
      | _ => rfl
    rw [← e]
    exact q
  | true =>
    refine iteT ⟨_, rfl, v, d, ex, rfl, hd, _, rfl, _, rfl, ?_⟩
    rcases int_or hs with ⟨i, rfl⟩ | ⟨b, rfl⟩
    · obtain rfl : v = .int i := hd
      refine iteT ⟨_, rfl, _, rfl, lo, i, rfl, rfl, _, rfl, ?_⟩
      have e : withinD lo hi (.int i) = (decide (lo ≤ i) && decide (i ≤ hi)) := rfl
      rw [e] at q
      cases h1 : decide (lo ≤ i) with
      | true =>
        rw [h1] at q
        exact iteT ⟨_, rfl, i, hi, rfl, rfl, q⟩
      | false =>
        rw [h1] at q
        exact iteF q
    · exact iteF q
theorem ok_pprice (DIsPrice : Fn K mg "is_price" sIsPrice ["value"]) (DIsIntegerWithin : Fn K mg "is_integer_within" sIsIntegerWithin ["value", "lowest", "highest"]) (g1 : ∃ u, mg "HIGHEST_PRICE" = some u ∧ L2.RelV (.int 99) u)
    (GIsIntegerWithin : FnOk P w K mg base CX0 1 DIsIntegerWithin.f DIsIntegerWithin.fd ["value", "lowest", "highest"] spWithin) : FnOk P w K mg base CX0 2 DIsPrice.f DIsPrice.fd ["value"] (spIs priceD) := by
  refine DIsPrice.F.ok scIsPrice (fun vs H Q E h => ?_) (fun cdv A outer s H vs Q E hr h => ?_)
  · obtain ⟨v, d, ex, rfl, _⟩ := h
    rfl
  obtain ⟨v, d, ex, rfl, hd, hn, q⟩ := h
  refine ⟨_, pss_one (ps_ret (pe_or (pe_cmpR op_isN (pv 0) pe_non (nomark _)) (pe_one (pe_fn DIsIntegerWithin GIsIntegerWithin hr (pa_cons (pv 0) (pa_cons pe_int (pa_cons (pe_gc (v := .int 99) rfl g1) pa_nil))))))), ?_⟩
  refine ⟨_, rfl, rfl, _, rfl, ?_⟩
  have e : priceD d = (decide (v = .non) || withinD 1 99 d) := by
    cases d with
    | none =>
      obtain rfl : v = .non := hd
      rfl
    | int i =>
      obtain rfl : v = .int i := hd
      show (decide (0 < i) && decide (i < 100)) = (decide (V.int i = V.non) || (decide (1 ≤ i) && decide (i ≤ 99)))
      rw [decide_eq_false (show ¬ V.int i = V.non from nofun), Bool.false_or]
      congr 1 <;> rw [decide_eq_decide] <;> omega
    | bool b =>
      obtain rfl : v = .bl b := hd
      rfl
    | str z =>
      obtain rfl : v = .str z := hd
      rfl
    | list ds =>
      obtain ⟨a, xs, rfl, _⟩ := hd
      rfl
    | tuple ds =>
      obtain ⟨a, xs, rfl, _⟩ := hd
      rfl
    | dict kvs =>
      obtain ⟨_, a, rfl, _⟩ := hd
      rfl
  rw [e] at q
  cases h : decide (v = V.non) with
  | true =>
    rw [h, Bool.true_or] at q
    exact iteT q
  | false =>
    rw [h, Bool.false_or] at q
    exact iteF ⟨_, rfl, v, d, ex, 1, 99, rfl, hd, q⟩
theorem ok_pid (DIsId : Fn K mg "is_id" sIsId ["value"]) (b_isinstance : mg "isinstance" = none) (b_len : mg "len" = none) (b_str : mg "str" = none) (g1 : ∃ u, mg "LONGEST_ID" = some u ∧ L2.RelV (.int 6) u) :
    FnOk P w K mg base CX0 1 DIsId.f DIsId.fd ["value"] (spIs (wordD 6 true)) := by
  refine DIsId.F.ok scIsId (fun vs H Q E h => ?_) (fun cdv A outer s H vs Q E hr h => ?_)
  · obtain ⟨v, d, ex, rfl, _⟩ := h
    rfl
  obtain ⟨v, d, ex, rfl, hd, hn, q⟩ := h
  refine ⟨_, pss_cons (ps_if (PW.pt (pw_or (pt_not (pt_val (pe_callB (cr_isD (T := "str") (by decide)) (by rfl) b_isinstance (by decide +kernel) (pa_cons (pv 0) (pa_cons (pe_bltn (v := .ty "str") rfl b_str (by rfl) rfl) pa_nil))))) (pw_or1 (pt_not (pt_chain op_le op_le pe_int (pe_callB (lenVE K) (by rfl) b_len (by decide +kernel) (pa_cons (pv 0) pa_nil)) (pe_gc (v := .int 6) rfl g1))))))
      (pss_one (ps_ret pe_bl))
      pss_nil)
      (pss_one (ps_ret (pe_and (pe_m0 F.slot_str_isascii F.type_str_isascii mt_isascii (pv 0)) (pe_and (pe_m0 F.slot_str_isalnum F.type_str_isalnum mt_isalnum (pv 0)) (pe_one (pe_cmpR op_eq (pv 0) (pe_lower (pv 0)) (nomark _))))))), ?_⟩
  refine ⟨_, rfl, v, d, ex, rfl, hd, _, rfl, ?_⟩
  cases hs : isD "str" d with
  | false =>
    refine iteT ?_
    rw [← wordD_no (m := 6) (b := true) hs]
    exact q
  | true =>
    obtain ⟨z, rfl⟩ := str_of_isD hs
    obtain rfl : v = .str z := hd
    obtain ⟨hz1, hz2⟩ := nice_str hn
    refine iteF ?_
    refine ⟨_, rfl, .str z, z.length, rfl, ⟨Nat.le_of_lt (small1000 (by omega)), rfl⟩, ?_⟩
    have wd : wordD 6 true (.str z) = (decide (1 ≤ z.length) && decide (z.length ≤ 6) && z.cps.toList.all (isSign true)) := rfl
    refine ⟨1, (z.length : Int), rfl, rfl, _, rfl, ?_⟩
    by_cases h1 : (1 : Int) ≤ (z.length : Int)
    · rw [decide_eq_true h1]
      refine iteT ⟨(z.length : Int), 6, rfl, rfl, _, rfl, ?_⟩
      by_cases h2 : (z.length : Int) ≤ 6
      · rw [decide_eq_true h2]
        refine iteF ?_
        rw [wd, decide_eq_true (show 1 ≤ z.length by omega), decide_eq_true (show z.length ≤ 6 by omega), Bool.true_and, Bool.true_and, ← id_text (by omega)] at q
        refine ⟨_, rfl, ⟨_, rfl⟩, z, rfl, rfl, trivial, _, rfl, ?_⟩
        cases ha : Txt.isascii z with
        | false =>
          rw [ha, Bool.false_and] at q
          exact iteF q
        | true =>
          rw [ha, Bool.true_and] at q
          refine iteT ⟨_, rfl, ⟨_, rfl⟩, z, rfl, rfl, trivial, _, rfl, ?_⟩
          cases hb : Txt.isalnum z with
          | false =>
            rw [hb, Bool.false_and] at q
            exact iteF q
          | true =>
            rw [hb, Bool.true_and] at q
            exact iteT ⟨_, rfl, _, rfl, ⟨_, rfl⟩, z, rfl, rfl, by omega, rfl, q⟩
      · rw [decide_eq_false h2]
        refine iteT ?_
        rw [wd, decide_eq_false (show ¬ z.length ≤ 6 by omega), Bool.and_false, Bool.false_and] at q
        exact q
    · rw [decide_eq_false h1]
      refine iteF ⟨_, rfl, iteT ?_⟩
      rw [wd, decide_eq_false (show ¬ 1 ≤ z.length by omega), Bool.false_and, Bool.false_and] at q
      exact q
theorem ok_pcell (DIsCell : Fn K mg "is_cell" sIsCell ["value"]) (DIsId : Fn K mg "is_id" sIsId ["value"]) (b_len : mg "len" = none) (g1 : ∃ u, mg "LONGEST_CELL" = some u ∧ L2.RelV (.int 4) u)
    (GIsId : FnOk P w K mg base CX0 1 DIsId.f DIsId.fd ["value"] (spIs (wordD 6 true))) : FnOk P w K mg base CX0 2 DIsCell.f DIsCell.fd ["value"] (spIs (wordD 4 false)) := by
  refine DIsCell.F.ok scIsCell (fun vs H Q E h => ?_) (fun cdv A outer s H vs Q E hr h => ?_)
  · obtain ⟨v, d, ex, rfl, _⟩ := h
    rfl
  obtain ⟨v, d, ex, rfl, hd, hn, q⟩ := h
  refine ⟨_, pss_one (ps_ret (pe_and (pe_fn DIsId GIsId hr (pa_cons (pv 0) pa_nil)) (pe_and (pe_cmpR op_le (pe_callB (lenVE K) (by rfl) b_len (by decide +kernel) (pa_cons (pv 0) pa_nil)) (pe_gc (v := .int 4) rfl g1) (nomark _)) (pe_one (pe_m0 F.slot_str_isalpha F.type_str_isalpha mt_isalpha (pv 0)))))), ?_⟩
  refine ⟨_, rfl, v, d, ex, rfl, hd, hn, _, rfl, ?_⟩
  cases hw : wordD 6 true d with
  | false =>
    refine iteF ?_
    have e : wordD 4 false d = false := by
      cases d with
      | str z =>
        rw [← Bool.not_eq_true]
        intro h
        have h : (decide (1 ≤ z.length) && decide (z.length ≤ 4) && z.cps.toList.all (isSign false)) = true := h
        rw [Bool.and_eq_true, Bool.and_eq_true, decide_eq_true_eq, decide_eq_true_eq] at h
        have : wordD 6 true (.str z) = true := by
          show (decide (1 ≤ z.length) && decide (z.length ≤ 6) && z.cps.toList.all (isSign true)) = true
          rw [decide_eq_true h.1.1, decide_eq_true (show z.length ≤ 6 by omega), all_weak h.2]
          rfl
        rw [hw] at this
        cases this
      | _ => rfl
    rw [← e]
    exact q
  | true =>
    obtain ⟨z, rfl⟩ : ∃ z, d = .str z := by
      cases d with
      | str z => exact ⟨z, rfl⟩
      | _ => cases hw
    obtain rfl : v = .str z := hd
    obtain ⟨hz1, hz2⟩ := nice_str hn
    have hw : (decide (1 ≤ z.length) && decide (z.length ≤ 6) && z.cps.toList.all (isSign true)) = true := hw
    rw [Bool.and_eq_true, Bool.and_eq_true, decide_eq_true_eq, decide_eq_true_eq] at hw
    obtain ⟨⟨w1, w2⟩, w3⟩ := hw
    have e : wordD 4 false (.str z) = (decide ((z.length : Int) ≤ 4) && Txt.isalpha z) := by
      show (decide (1 ≤ z.length) && decide (z.length ≤ 4) && z.cps.toList.all (isSign false)) = _
      rw [decide_eq_true w1, Bool.true_and, alpha_text w1 w3]
      congr 1
      rw [decide_eq_decide]
      omega
    rw [e] at q
    refine iteT ⟨_, rfl, .str z, z.length, rfl, ⟨Nat.le_of_lt (small1000 (by omega)), rfl⟩, (z.length : Int), 4, rfl, rfl, _, rfl, ?_⟩
    cases h4 : decide ((z.length : Int) ≤ 4) with
    | false =>
      rw [h4, Bool.false_and] at q
      exact iteF q
    | true =>
      rw [h4, Bool.true_and] at q
      exact iteT ⟨_, rfl, ⟨_, rfl⟩, z, rfl, rfl, trivial, q⟩
end
end NV
/-! Q2 -/
set_option Elab.async false
set_option linter.all false
set_option maxRecDepth 100000
set_option maxHeartbeats 600000
/-! the package's is_cells: cells found before stand in the dict known -/
namespace NV
open PySem PySem.Spec PyProof.Rows L2
open C8 (pss_cut pe_gc)
abbrev sIsCells : Stmt := topS 24
theorem scIsCells : FnScope ["value", "fewest", "known", "before", "cell"] ["value", "fewest", "known"] (defScope sIsCells) := ⟨rfl, rfl, rfl, by decide +kernel, rfl, by decide +kernel, by decide +kernel⟩
/-- a dict of cells, at most n -/
def trues (zs : List Str) : List (Key × V) := zs.map fun z => ((Sum.inr z : Key), V.bl true)
structure Known (kd : Addr) (n : Nat) (H : Hp) : Prop where
  at_ : ∃ zs : List Str, H kd = some (.dK (trues zs)) ∧ (∀ z ∈ zs, wordD 4 false (.str z) = true) ∧ zs.length ≤ n
theorem Known.keep {kd : Addr} {n : Nat} {H H' : Hp} (k : Known kd n H) (h : Kp [] H H') : Known kd n H' := by
  obtain ⟨zs, e, r⟩ := k
  exact ⟨zs, h _ _ (by simp) e, r⟩
theorem Known.more {kd : Addr} {n m : Nat} {H : Hp} (k : Known kd n H) (h : n ≤ m) : Known kd m H := by
  obtain ⟨zs, e, r, l⟩ := k
  exact ⟨zs, e, r, by omega⟩
theorem trues_val (z : Str) : ∀ zs : List Str, valV (trues zs) (Sum.inr z : Key) = if z ∈ zs then some (.bl true) else none
  | [] => rfl
  | y :: zs => by
    by_cases h : y = z
    · rw [if_pos (by rw [h]; exact List.mem_cons_self)]
      exact valV_pos (p := ((Sum.inr y : Key), V.bl true)) (by rw [h])
    · have e : valV (trues (y :: zs)) (Sum.inr z : Key) = valV (trues zs) (Sum.inr z : Key) := valV_neg (p := ((Sum.inr y : Key), V.bl true)) (fun q => h (Sum.inr.inj q))
      rw [e, trues_val z zs]
      by_cases h2 : z ∈ zs
      · rw [if_pos h2, if_pos (List.mem_cons_of_mem _ h2)]
      · rw [if_neg h2, if_neg (fun q => (List.mem_cons.mp q).elim (fun q => h q.symm) h2)]
theorem texts_app : ∀ ds es : List PyData, textsOf (ds ++ es) = textsOf ds ++ textsOf es
  | [], _ => rfl
  | d :: ds, es => by
    have ih := texts_app ds es
    cases d <;> simp [textsOf, ih]
/-- what is read of a tuple of cells so far -/
structure Rising (ds : List PyData) (j : Nat) (before : Str) (zs : List Str) : Prop where
  eq : ds.take j = zs.map PyData.str
  word : ∀ z ∈ zs, wordD 4 false (.str z) = true
  asc : Asc zs
  top : ∀ z ∈ zs, z = before ∨ ltS z before
  last : before ∈ zs ∨ (zs = [] ∧ before = "")
theorem Rising.next {ds : List PyData} {j : Nat} {before c : Str} {zs : List Str} (r : Rising ds j before zs) (hd : ds[j]? = some (.str c)) (lt : ltS before c) (hc : wordD 4 false (.str c) = true) : Rising ds (j + 1) c (zs ++ [c]) := by
  have below : ∀ z ∈ zs, ltS z c := fun z hz => by
    rcases r.top z hz with e | e
    · rw [e]; exact lt
    · exact ltS_trans e lt
  refine ⟨?_, fun z hz => ?_, ?_, fun z hz => ?_, .inl (by simp)⟩
  · rw [List.take_add_one, hd, r.eq]
    simp
  · rcases List.mem_append.mp hz with h | h
    · exact r.word z h
    · rw [List.mem_singleton.mp h]; exact hc
  · refine List.pairwise_append.mpr ⟨r.asc, List.pairwise_singleton _ _, fun a ha b hb => ?_⟩
    rw [List.mem_singleton.mp hb]
    exact below a ha
  · rcases List.mem_append.mp hz with h | h
    · exact .inr (below z h)
    · exact .inl (List.mem_singleton.mp h)
theorem Rising.bad {ds : List PyData} {j least : Nat} {before c : Str} {zs : List Str} (r : Rising ds j before zs) (hd : ds[j]? = some (.str c)) (lt : ¬ ltS before c) : cellsD least (.tuple ds) = false := by
  show (decide (least ≤ ds.length) && decide (ds.length ≤ 3) && ds.all (wordD 4 false) && decide (Asc (textsOf ds))) = false
  rcases r.last with h | ⟨_, rfl⟩
  · rw [show decide (Asc (textsOf ds)) = false from decide_eq_false fun q => lt ?_, Bool.and_false]
    have hj := (List.getElem?_eq_some_iff.mp hd).1
    have e : ds = ds.take j ++ ds.drop j := (List.take_append_drop j ds).symm
    have e2 : ds.drop j = .str c :: ds.drop (j + 1) := by
      rw [List.drop_eq_getElem_cons hj]
      congr 1
      exact (List.getElem?_eq_some_iff.mp hd).2
    rw [e, texts_app, r.eq, texts_map, e2] at q
    exact (List.pairwise_append.mp q).2.2 before h c (by show c ∈ c :: textsOf _; exact List.mem_cons_self)
  · have hz : c = "" := ext_toList (by
      have := lt
      unfold ltS at this
      cases hc : c.cps.toList with
      | nil => rfl
      | cons a l =>
        rw [hc] at this
        exact absurd (show (Str.ofString "").cps.toList < a :: l from List.nil_lt_cons ..) this)
    have hw : ds.all (wordD 4 false) = false := by
      rw [← Bool.not_eq_true, List.all_eq_true]
      intro q
      have := q _ (List.mem_of_getElem? hd)
      rw [hz] at this
      exact absurd this (by decide)
    rw [hw, Bool.and_false, Bool.false_and]
theorem cells_word {ds : List PyData} {j least : Nat} {d : PyData} (hd : ds[j]? = some d) (h : wordD 4 false d = false) : cellsD least (.tuple ds) = false := by
  show (decide (least ≤ ds.length) && decide (ds.length ≤ 3) && ds.all (wordD 4 false) && decide (Asc (textsOf ds))) = false
  have hw : ds.all (wordD 4 false) = false := by
    rw [← Bool.not_eq_true, List.all_eq_true]
    intro q
    rw [q _ (List.mem_of_getElem? hd)] at h
    cases h
  rw [hw, Bool.and_false, Bool.false_and]
theorem Rising.good {ds : List PyData} {least : Nat} {before : Str} {zs : List Str} (r : Rising ds ds.length before zs) (h1 : least ≤ ds.length) (h2 : ds.length ≤ 3) : cellsD least (.tuple ds) = true := by
  show (decide (least ≤ ds.length) && decide (ds.length ≤ 3) && ds.all (wordD 4 false) && decide (Asc (textsOf ds))) = true
  have e := r.eq
  rw [List.take_length] at e
  have hw : ds.all (wordD 4 false) = true := by
    rw [List.all_eq_true]
    intro d hd
    rw [e] at hd
    obtain ⟨z, hz, rfl⟩ := List.mem_map.mp hd
    exact r.word z hz
  have ha : Asc (textsOf ds) := by
    rw [e, texts_map]
    exact r.asc
  rw [decide_eq_true h1, decide_eq_true h2, hw, decide_eq_true ha]
  rfl
def spCellsK : Sp := fun vs H Q _ => ∃ (v : V) (d : PyData) (ex : List Addr) (least : Nat) (kd : Addr) (n : Nat), vs = [v, .int least, .ref kd] ∧ Rp ex H d v ∧ niceD d = true ∧ kd ∈ ex ∧ Known kd n H ∧ n ≤ 100000 ∧ ∀ H', Kp [kd] H H' → Known kd (n + 3) H' → Q (.bl (cellsD least d)) H'
section
variable {P : Program} {w : World} {K : PySem.W.Frag} {mg : Str → Option Value} {base : Heap}
theorem ok_pcells (DIsCells : Fn K mg "is_cells" sIsCells ["value", "fewest", "known"]) (DIsCell : Fn K mg "is_cell" sIsCell ["value"]) (b_isinstance : mg "isinstance" = none) (b_len : mg "len" = none) (b_tuple : mg "tuple" = none) (b_str : mg "str" = none) (g1 : ∃ u, mg "MOST_CELLS" = some u ∧ L2.RelV (.int 3) u)
    (GIsCell : FnOk P w K mg base CX0 2 DIsCell.f DIsCell.fd ["value"] (spIs (wordD 4 false))) : FnOk P w K mg base CX0 3 DIsCells.f DIsCells.fd ["value", "fewest", "known"] spCellsK := by
  refine DIsCells.F.ok scIsCells (fun vs H Q E h => ?_) (fun cdv A outer s H vs Q E hr h => ?_)
  · obtain ⟨v, d, ex, least, kd, n, rfl, _⟩ := h
    rfl
  obtain ⟨v, d, ex, least, kd, n, rfl, hd, hn, hk, kn, n5, q⟩ := h
  have hu := hu_of hr
  refine ⟨_, pss_cons (ps_if (PW.pt (pw_or (pt_not (pt_val (pe_callB (cr_isD (T := "tuple") (by decide)) (by rfl) b_isinstance (by decide +kernel) (pa_cons (pv 0) (pa_cons (pe_bltn (v := .ty "tuple") rfl b_tuple (by rfl) rfl) pa_nil))))) (pw_or1 (pt_not (pt_chain op_le op_le (pv 1) (pe_callB (lenE K) (by rfl) b_len (by decide +kernel) (pa_cons (pv 0) pa_nil)) (pe_gc (v := .int 3) rfl g1))))))
      (pss_one (ps_ret pe_bl))
      pss_nil)
      (pss_cons (ps_set (i := 3) scIsCells.nd rfl (.inl rfl) pe_str)
      (pss_cons (ps_for PassesOwn.never rfl (piTupE K (pv 0)) (pg_name (i := 4) scIsCells.nd rfl (.inl rfl))
      (pss_cons (ps_if (PW.pt (pw_or (pt_not (pt_val (pe_callB (cr_isD (T := "str") (by decide)) (by rfl) b_isinstance (by decide +kernel) (pa_cons (pv 4) (pa_cons (pe_bltn (v := .ty "str") rfl b_str (by rfl) rfl) pa_nil))))) (pw_or1 (pt_cmpR op_le_str (pv 4) (pv 3) (nomark _)))))
      (pss_one (ps_ret pe_bl))
      pss_nil)
      (pss_cons (ps_if (pt_cmp (pc_dnotin hu (pv 4) (pv 2)))
      (pss_cons (ps_if (pt_not (pt_val (pe_fn DIsCell GIsCell hr (pa_cons (pv 4) pa_nil))))
      (pss_one (ps_ret pe_bl))
      pss_nil)
      (pss_one (ps_dput hu (pv 2) (pv 4) pe_bl rfl)))
      pss_nil)
      (pss_one (ps_set (i := 3) scIsCells.nd rfl (.inl rfl) (pv 4))))))
      (pss_one (ps_ret pe_bl)))), ?_⟩
  refine ⟨_, rfl, v, d, ex, rfl, hd, _, rfl, ?_⟩
  have q0 := q H Kp.refl (kn.more (by omega))
  cases hs : isD "tuple" d with
  | false =>
    refine iteT ?_
    rw [← cellsD_no (l := least) hs]
    exact q0
  | true =>
    obtain ⟨ds, rfl⟩ := tup_of_isD hs
    obtain ⟨a, xs, rfl, na, ha, hxs⟩ := hd
    have n2 := nice_tup hn
    have hl := hxs.length
    have cd : ∀ b1 b2 b3 b4 : Bool, decide (least ≤ ds.length) = b1 → decide (ds.length ≤ 3) = b2 → ds.all (wordD 4 false) = b3 → decide (Asc (textsOf ds)) = b4 → cellsD least (.tuple ds) = (b1 && b2 && b3 && b4) := fun b1 b2 b3 b4 h1 h2 h3 h4 => by
      show (decide (least ≤ ds.length) && decide (ds.length ≤ 3) && ds.all (wordD 4 false) && decide (Asc (textsOf ds))) = _
      rw [h1, h2, h3, h4]
    refine iteF ⟨_, rfl, _, rfl, a, xs, rfl, .inr (.inl (.inl ha)), ?_⟩
    refine ⟨(least : Int), (xs.length : Int), rfl, rfl, _, rfl, ?_⟩
    by_cases h1 : (least : Int) ≤ (xs.length : Int)
    · rw [decide_eq_true h1]
      refine iteT ⟨(xs.length : Int), 3, rfl, rfl, _, rfl, ?_⟩
      by_cases h2 : (xs.length : Int) ≤ 3
      · rw [decide_eq_true h2]
        have akd : a ≠ kd := fun z => na (by rw [z]; exact hk)
        have aT : ∀ {H' : Hp}, Kp [kd] H H' → SqT K H' a xs := fun k => .inl (.inl (k _ _ (by simpa using akd) ha))
        refine iteF ⟨_, rfl, a, rfl, ⟨_, .inl (.inl ha)⟩, for_tup (K := K) (a := a) (xs := xs) (fun j σ H' => ∃ (before : Str) (cell : Option V) (zs : List Str), σ = [some (.ref a), some (.int least), some (.ref kd), some (.str before), cell] ∧ Kp [kd] H H' ∧ Known kd (n + j) H' ∧ Rising ds j before zs)
          ⟨"", none, [], rfl, Kp.refl, kn.more (by omega), ⟨rfl, (fun z hz => by cases hz), List.Pairwise.nil, (fun z hz => by cases hz), .inr ⟨rfl, rfl⟩⟩⟩ ?_ ?_ ?_⟩
        · rintro j σ H' hj ⟨_, _, _, _, k, _⟩
          exact aT k
        · rintro j x σ H' hx ⟨before, cell, zs, rfl, k, kj, r⟩
          have hj : j < xs.length := (List.getElem?_eq_some_iff.mp hx).1
          have hj3 : j < 3 := by omega
          obtain ⟨e, he1, he2⟩ := RpAll.back hxs hx
          have ke := Rp.keep (k.mono (by simpa using hk)) _ _ he2
          have ne := n2 e (List.mem_of_getElem? he1)
          have stop : wordD 4 false e = false → Q (.bl false) H' := fun h => by
            rw [← cells_word (least := least) he1 h]
            exact q H' k (kj.more (by omega))
          refine ⟨_, rfl, x, e, ex, rfl, ke, _, rfl, ?_⟩
          cases hse : isD "str" e with
          | false => exact iteT (stop (wordD_no hse))
          | true =>
            obtain ⟨c, rfl⟩ := str_of_isD hse
            obtain rfl : x = .str c := ke
            refine iteF ⟨_, rfl, _, rfl, c, before, rfl, rfl, _, rfl, ?_⟩
            by_cases hlt : ltS before c
            · rw [show decide (before.cps.toList < c.cps.toList) = true from decide_eq_true hlt]
              obtain ⟨ys, ey, wy, ly⟩ := kj.at_
              refine iteF ⟨_, rfl, _, rfl, kd, _, rfl, DGet.k (k := Sum.inr c) ey, _, rfl, ?_⟩
              rw [trues_val]
              have go : ∀ {H2 : Hp}, Kp [kd] H H2 → Known kd (n + (j + 1)) H2 → wordD 4 false (.str c) = true → ∃ (before' : Str) (cell : Option V) (zs : List Str), [some (.ref a), some (.int least), some (.ref kd), some (.str c), some (.str c)] = [some (.ref a), some (.int least), some (.ref kd), some (.str before'), cell] ∧ Kp [kd] H H2 ∧ Known kd (n + (j + 1)) H2 ∧ Rising ds (j + 1) before' zs :=
                fun k2 kn2 hc => ⟨c, _, _, rfl, k2, kn2, r.next he1 hlt hc⟩
              by_cases hin : c ∈ ys
              · rw [if_pos hin]
                exact iteF ⟨_, rfl, go k (kj.more (by omega)) (wy c hin)⟩
              · rw [if_neg hin]
                refine iteT ⟨_, rfl, .str c, .str c, ex, rfl, rfl, ne, _, rfl, ?_⟩
                cases hw : wordD 4 false (.str c) with
                | false => exact iteT (stop hw)
                | true =>
                  refine iteF ⟨_, rfl, _, rfl, kd, _, rfl, DPut.k (k := Sum.inr c) ey (by show (trues ys).length < sizeLine; rw [show (trues ys).length = ys.length from List.length_map ..]; have : (100003 : Nat) < sizeLine := by decide
                                                                                          omega), ?_⟩
                  refine ⟨_, rfl, go (k.trans (Kp.put (by simp))) ⟨ys ++ [c], ?_, fun z hz => ?_, by rw [List.length_append, List.length_singleton]; omega⟩ hw⟩
                  · rw [upd_same, putK_new _ (by rw [trues_val, if_neg hin])]
                    unfold trues
                    rw [List.map_append]
                    rfl
                  · rcases List.mem_append.mp hz with h | h
                    · exact wy z h
                    · rw [List.mem_singleton.mp h]; exact hw
            · rw [show decide (before.cps.toList < c.cps.toList) = false from decide_eq_false hlt]
              refine iteT ?_
              rw [← r.bad (least := least) he1 hlt]
              exact q H' k (kj.more (by omega))
        · rintro σ H' ⟨before, cell, zs, rfl, k, kj, r⟩
          rw [← hl] at r kj
          rw [← r.good (least := least) (by omega) (by omega)]
          exact q H' k (kj.more (by omega))
      · rw [decide_eq_false h2]
        refine iteT ?_
        have e : cellsD least (.tuple ds) = false := (cd _ false _ _ rfl (decide_eq_false (by omega)) rfl rfl).trans (by simp)
        rw [← e]
        exact q0
    · rw [decide_eq_false h1]
      refine iteF ⟨_, rfl, iteT ?_⟩
      have e : cellsD least (.tuple ds) = false := (cd false _ _ _ (decide_eq_false (by omega)) rfl rfl rfl).trans rfl
      rw [← e]
      exact q0
end
end NV
/-! P4b -/
set_option Elab.async false
set_option linter.all false
set_option maxRecDepth 100000
set_option maxHeartbeats 600000
namespace NV
open PySem PySem.Spec PyProof.Rows L2
/-! ### data != a text -/
theorem dict_ne_str (l : Addr) (es : Array DictEntry) (n : Nat) (dd : Option Addr) (sl : Array (Option Value)) (b : Str) (u : Tok) :
    Meets (Builtin.«dict.__ne__» ⟨[.ref l, .str b u], []⟩) (fun _ R s => s.heap.get? l = some { cls := .type "dict", dict := dd, data := .dict es n, slots := sl } ∧ R (.ok (.ret .notImplemented)) s) :=
  .of_wp fun prog w A R s h => by
    obtain ⟨hp, g, d, tk, os⟩ := s
    obtain ⟨hl, h⟩ := h
    have f1 := F.sub_str_dict
    wp_walk using wpAny_loadPart' hl
    exact ⟨_, rfl, h⟩
theorem str_ne_dict (b : Str) (u : Tok) (l : Addr) (es : Array DictEntry) (n : Nat) (dd : Option Addr) (sl : Array (Option Value)) :
    Meets (Builtin.«str.__ne__» ⟨[.str b u, .ref l], []⟩) (fun _ R s => s.heap.get? l = some { cls := .type "dict", dict := dd, data := .dict es n, slots := sl } ∧ R (.ok (.ret .notImplemented)) s) :=
  .of_wp fun prog w A R s h => by
    obtain ⟨hp, g, d, tk, os⟩ := s
    obtain ⟨hl, h⟩ := h
    wp_walk using wpAny_loadPart' hl, wpAny_load hl
    exact ⟨_, rfl, h⟩
theorem ne_dict_str {A : Around} {s : Shared} {l : Addr} {o : Obj} {es : Array DictEntry} {n : Nat} (b : Str) (u : Tok) (ho : s.heap.get? l = some o) (hc : o.cls = .type "dict") (hd : o.data = .dict es n) (hu : A.units < cLine) : SeqAt.RcNeAt A s (.ref l) (.str b u) true := fun prog w E Q h => by
  obtain ⟨cls, dd, data, sl⟩ := o
  simp only at hc hd
  subst hc hd
  exact SeqAt.rc_ne_decline_or (k := false) ⟨_, ho, rfl⟩ (typeIs_str s b u) (by decide) F.sub_str_dict F.slot_dict_ne F.slot_str_ne_refl
    (fun _ hq => call_meets F.slot_dict_ne ⟨_, ho, rfl⟩ F.entry_dict_ne (F.args_dict_ne_2 _ _) (dict_ne_str l es n dd sl b u) ⟨ho, hq⟩)
    (fun _ hq => call_meets F.slot_str_ne_refl (typeIs_str s b u) F.entry_str_ne (F.args_str_ne_2 _ _) (str_ne_dict b u l es n dd sl) ⟨ho, hq⟩)
    (fun _ hq => wpAny_of_eq (rfl : isSame (.ref l) (.str b u) = pure false) hq) (.inr hu) h
def rNeDS : R2 := fun x y H Q => ∃ (d : PyData) (ex : List Addr) (z : Str), y = .str z ∧ Rp ex H d x ∧ Q (.bl (!strD z d)) H
theorem op_neDS {X : Cx} (hu : X.A.units + 64 < cLine) : OpR X (compareOp .NotEq) rNeDS := by
  intro pins s σ H x y v u Q I rx ry h
  obtain ⟨d, ex, z, rfl, hd, q⟩ := h
  have hu' : X.A.units < cLine := by omega
  have fin : strD z d = false → EP X pins σ Q (.bool true) s := fun e => ⟨.bl true, H, I, rfl, by rw [e] at q; exact q⟩
  have sc : scal x (.str z) = true → (!decide (x = .str z)) = (!strD z d) → wpAny (model X.prog X.w) X.A (compareOp .NotEq v u) (EP X pins σ Q) X.xe s := fun h1 h2 => op_ne pins s σ H x (.str z) v u Q I rx ry ⟨h1, by rw [h2]; exact q⟩
  obtain ⟨t, rfl⟩ := ry
  cases d with
  | none =>
    obtain rfl : x = .non := hd
    exact sc rfl rfl
  | bool b =>
    obtain rfl : x = .bl b := hd
    exact sc rfl (by simp [strD])
  | int i =>
    obtain rfl : x = .int i := hd
    exact sc rfl (by simp [strD])
  | str y =>
    obtain rfl : x = .str y := hd
    exact sc rfl (by simp [strD])
  | list ds =>
    obtain ⟨a, xs, rfl, _, ha, _⟩ := hd
    obtain rfl : v = Value.ref a := rx
    obtain ⟨its, rv, pl, _⟩ := I.list (.inl (.inl ha))
    exact SeqAt.RcNeAt.list_str z t pl.isList hu' _ _ _ _ (fin rfl)
  | tuple ds =>
    obtain ⟨a, xs, rfl, _, ha, _⟩ := hd
    obtain rfl : v = Value.ref a := rx
    obtain ⟨its, rv, pl, _⟩ := I.tuple (.inl (.inl ha))
    exact SeqAt.RcNeAt.tuple_str z t pl hu' _ _ _ _ (fin rfl)
  | dict kvs =>
    obtain ⟨rfl, a, rfl, _, ha⟩ := hd
    obtain rfl : v = Value.ref a := rx
    obtain ⟨_, o, es, ep, ho, hc, hdt, _⟩ := no_entries I.hok ha
    exact ne_dict_str z t ho hc hdt hu' _ _ _ _ (fin rfl)
/-! ### data == a text -/
theorem dict_eq_no (l : Addr) (es : Array DictEntry) (n : Nat) (dd : Option Addr) (sl : Array (Option Value)) (b : Str) (u : Tok) :
    Meets (Builtin.«dict.__eq__» ⟨[.ref l, .str b u], []⟩) (fun _ R s => s.heap.get? l = some { cls := .type "dict", dict := dd, data := .dict es n, slots := sl } ∧ R (.ok (.ret .notImplemented)) s) :=
  .of_wp fun prog w A R s h => by
    obtain ⟨hp, g, d, tk, os⟩ := s
    obtain ⟨hl, h⟩ := h
    have f1 := F.sub_str_dict
    wp_walk using wpAny_loadPart' hl
    exact ⟨_, rfl, h⟩
theorem str_eq_no (b : Str) (u : Tok) (l : Addr) (es : Array DictEntry) (n : Nat) (dd : Option Addr) (sl : Array (Option Value)) :
    Meets (Builtin.«str.__eq__» ⟨[.str b u, .ref l], []⟩) (fun _ R s => s.heap.get? l = some { cls := .type "dict", dict := dd, data := .dict es n, slots := sl } ∧ R (.ok (.ret .notImplemented)) s) :=
  .of_wp fun prog w A R s h => by
    obtain ⟨hp, g, d, tk, os⟩ := s
    obtain ⟨hl, h⟩ := h
    wp_walk using wpAny_loadPart' hl, wpAny_load hl
    exact ⟨_, rfl, h⟩
theorem eq_dict_text {A : Around} {s : Shared} {l : Addr} {o : Obj} {es : Array DictEntry} {n : Nat} (b : Str) (u : Tok) (ho : s.heap.get? l = some o) (hc : o.cls = .type "dict") (hd : o.data = .dict es n) (hu : A.units < cLine) : SeqAt.RcAt A s (.ref l) (.str b u) false := fun prog w E Q h => by
  obtain ⟨cls, dd, data, sl⟩ := o
  simp only at hc hd
  subst hc hd
  refine SeqAt.rc_eq_decline_or (k := false) (Ta := "dict") (Tb := "str") ⟨_, ho, rfl⟩ (typeIs_str s b u) (by decide) F.sub_str_dict F.slot_dict_eq F.slot_str_eq_refl (fun _ hq => ?_) (fun _ hq => ?_) (fun _ hq => wpAny_of_eq (rfl : isSame (.ref l) (.str b u) = pure false) hq) (.inr hu) h
  · exact call_meets F.slot_dict_eq ⟨_, ho, rfl⟩ F.entry_dict_eq (F.args_dict_eq_2 _ _) (dict_eq_no l es n dd sl b u) ⟨ho, hq⟩
  · exact call_meets F.slot_str_eq_refl (typeIs_str s b u) F.entry_str_eq (F.args_str_eq_2 _ _) (str_eq_no b u l es n dd sl) ⟨ho, hq⟩
def rEqDS : R2 := fun x y H Q => ∃ (d : PyData) (ex : List Addr) (z : Str), y = .str z ∧ Rp ex H d x ∧ Q (.bl (strD z d)) H
theorem op_eqDS {X : Cx} (hu : X.A.units + 64 < cLine) : OpR X (compareOp .Eq) rEqDS := by
  intro pins s σ H x y v u Q I rx ry h
  obtain ⟨d, ex, z, rfl, hd, q⟩ := h
  have hu' : X.A.units < cLine := by omega
  have fin : strD z d = false → EP X pins σ Q (.bool false) s := fun e => ⟨.bl false, H, I, rfl, by rw [e] at q; exact q⟩
  have sc : scal x (.str z) = true → decide (x = .str z) = strD z d → wpAny (model X.prog X.w) X.A (compareOp .Eq v u) (EP X pins σ Q) X.xe s := fun h1 h2 => op_eq pins s σ H x (.str z) v u Q I rx ry ⟨h1, by rw [h2]; exact q⟩
  obtain ⟨t, rfl⟩ := ry
  match d, hd with
  | .none, hd =>
    obtain rfl : x = .non := hd
    exact sc rfl rfl
  | .bool b, hd =>
    obtain rfl : x = .bl b := hd
    exact sc rfl (by simp [strD])
  | .int i, hd =>
    obtain rfl : x = .int i := hd
    exact sc rfl (by simp [strD])
  | .str y, hd =>
    obtain rfl : x = .str y := hd
    exact sc rfl (by simp [strD])
  | .list ds, hd =>
    obtain ⟨a, xs, rfl, _, ha, _⟩ := hd
    obtain rfl : v = Value.ref a := rx
    obtain ⟨its, rv, pl, _⟩ := I.list (.inl (.inl ha))
    exact SeqAt.RcAt.list_str z t pl.isList hu' _ _ _ _ (fin rfl)
  | .tuple ds, hd =>
    obtain ⟨a, xs, rfl, _, ha, _⟩ := hd
    obtain rfl : v = Value.ref a := rx
    obtain ⟨its, rv, pl, _⟩ := I.tuple (.inl (.inl ha))
    exact SeqAt.RcAt.tuple_str z t pl hu' _ _ _ _ (fin rfl)
  | .dict kvs, hd =>
    obtain ⟨rfl, a, rfl, _, ha⟩ := hd
    obtain rfl : v = Value.ref a := rx
    obtain ⟨_, o, es, ep, ho, hc, hdt, _⟩ := no_entries I.hok ha
    exact eq_dict_text z t ho hc hdt hu' _ _ _ _ (fin rfl)
end NV
/-! Q3 -/
set_option Elab.async false
set_option linter.all false
set_option maxRecDepth 100000
set_option maxHeartbeats 600000
/-! the package's is_entry_with -/
namespace NV
open PySem PySem.Spec PyProof.Rows L2
open C8 (pss_cut pe_gc)
abbrev sIsEntryWith : Stmt := topS 26
theorem scIsEntryWith : FnScope ["value", "known", "kind", "entry_id", "reads", "writes", "price", "cells"] ["value", "known"] (defScope sIsEntryWith) := ⟨rfl, rfl, rfl, by decide +kernel, rfl, by decide +kernel, by decide +kernel⟩
def spEntryK : Sp := fun vs H Q _ => ∃ (v : V) (d : PyData) (ex : List Addr) (kd : Addr) (n : Nat), vs = [v, .ref kd] ∧ Rp ex H d v ∧ niceD d = true ∧ kd ∈ ex ∧ Known kd n H ∧ n ≤ 90000 ∧ ∀ H', Kp [kd] H H' → Known kd (n + 6) H' → Q (.bl (entryD d)) H'
theorem entry_len {ds : List PyData} (h3 : ds.length ≠ 3) (h5 : ds.length ≠ 5) : entryD (.tuple ds) = false := by
  match ds with
  | [_, _, _] => exact absurd rfl h3
  | [_, _, _, _, _] => exact absurd rfl h5
  | [] => rfl
  | [_] => rfl
  | [_, _] => rfl
  | [_, _, _, _] => rfl
  | _ :: _ :: _ :: _ :: _ :: _ :: _ => rfl
section
variable {P : Program} {w : World} {K : PySem.W.Frag} {mg : Str → Option Value} {base : Heap}
theorem ok_pentryk (DIsEntryWith : Fn K mg "is_entry_with" sIsEntryWith ["value", "known"]) (DIsId : Fn K mg "is_id" sIsId ["value"]) (DIsPrice : Fn K mg "is_price" sIsPrice ["value"]) (DIsCells : Fn K mg "is_cells" sIsCells ["value", "fewest", "known"]) (b_isinstance : mg "isinstance" = none) (b_len : mg "len" = none) (b_tuple : mg "tuple" = none)
    (GIsId : FnOk P w K mg base CX0 1 DIsId.f DIsId.fd ["value"] (spIs (wordD 6 true))) (GIsPrice : FnOk P w K mg base CX0 2 DIsPrice.f DIsPrice.fd ["value"] (spIs priceD)) (GIsCells : FnOk P w K mg base CX0 3 DIsCells.f DIsCells.fd ["value", "fewest", "known"] spCellsK) :
    FnOk P w K mg base CX0 4 DIsEntryWith.f DIsEntryWith.fd ["value", "known"] spEntryK := by
  refine DIsEntryWith.F.ok scIsEntryWith (fun vs H Q E h => ?_) (fun cdv A outer s H vs Q E hr h => ?_)
  · obtain ⟨v, d, ex, kd, n, rfl, _⟩ := h
    rfl
  obtain ⟨v, d, ex, kd, n, rfl, hd, hn, hk, kn, n5, q⟩ := h
  refine ⟨_, pss_cons (ps_if (pt_not (pt_val (pe_callB (cr_isD (T := "tuple") (by decide)) (by rfl) b_isinstance (by decide +kernel) (pa_cons (pv 0) (pa_cons (pe_bltn (v := .ty "tuple") rfl b_tuple (by rfl) rfl) pa_nil)))))
      (pss_one (ps_ret pe_bl))
      pss_nil)
      (pss_cons (ps_if (pt_cmpR op_eq (pe_callB (lenE K) (by rfl) b_len (by decide +kernel) (pa_cons (pv 0) pa_nil)) pe_int (nomark _))
      (pss_cons (ps_asg (pv 0) (pg_tup (by rfl) (pgs_cons (pg_name (i := 2) scIsEntryWith.nd rfl (.inl rfl)) (pgs_cons (pg_name (i := 3) scIsEntryWith.nd rfl (.inl rfl)) (pgs_cons (pg_name (i := 4) scIsEntryWith.nd rfl (.inl rfl)) (pgs_cons (pg_name (i := 5) scIsEntryWith.nd rfl (.inl rfl)) (pgs_cons (pg_name (i := 6) scIsEntryWith.nd rfl (.inl rfl)) pgs_nil)))))))
      (pss_cons (ps_if (PW.pt (pw_or (pt_cmpR (op_neDS hr.units) (pv 2) pe_str (nomark _)) (pw_or (pt_not (pt_val (pe_fn DIsId GIsId hr (pa_cons (pv 3) pa_nil)))) (pw_or1 (pt_not (pt_val (pe_fn DIsPrice GIsPrice hr (pa_cons (pv 6) pa_nil))))))))
      (pss_one (ps_ret pe_bl))
      pss_nil)
      (pss_one (ps_ret (pe_and (pe_fn DIsCells GIsCells hr (pa_cons (pv 4) (pa_cons pe_int (pa_cons (pv 1) pa_nil)))) (pe_one (pe_fn DIsCells GIsCells hr (pa_cons (pv 5) (pa_cons pe_int (pa_cons (pv 1) pa_nil))))))))))
      pss_nil)
      (pss_cons (ps_if (pt_cmpR op_eq (pe_callB (lenE K) (by rfl) b_len (by decide +kernel) (pa_cons (pv 0) pa_nil)) pe_int (nomark _))
      (pss_cons (ps_asg (pv 0) (pg_tup (by rfl) (pgs_cons (pg_name (i := 2) scIsEntryWith.nd rfl (.inl rfl)) (pgs_cons (pg_name (i := 3) scIsEntryWith.nd rfl (.inl rfl)) (pgs_cons (pg_name (i := 7) scIsEntryWith.nd rfl (.inl rfl)) pgs_nil)))))
      (pss_one (ps_ret (pe_and (pe_cmpR (op_eqDS hr.units) (pv 2) pe_str (nomark _)) (pe_and (pe_fn DIsId GIsId hr (pa_cons (pv 3) pa_nil)) (pe_one (pe_fn DIsCells GIsCells hr (pa_cons (pv 7) (pa_cons pe_int (pa_cons (pv 1) pa_nil))))))))))
      pss_nil)
      (pss_one (ps_ret pe_bl)))), ?_⟩
  refine ⟨_, rfl, v, d, ex, rfl, hd, _, rfl, ?_⟩
  have q0 := q H Kp.refl (kn.more (by omega))
  have hk' : ∀ b ∈ [kd], b ∈ ex := by simpa using hk
  cases hs : isD "tuple" d with
  | false =>
    refine iteT ?_
    rw [← entryD_no hs]
    exact q0
  | true =>
    obtain ⟨ds, rfl⟩ := tup_of_isD hs
    obtain ⟨a, xs, rfl, na, ha, hxs⟩ := hd
    have hl := hxs.length
    have n2 := nice_tup hn
    refine iteF ⟨_, rfl, a, xs, rfl, .inr (.inl (.inl ha)), rfl, _, rfl, ?_⟩
    by_cases h5 : xs.length = 5
    · rw [show decide (V.int (xs.length : Int) = V.int 5) = true from decide_eq_true (by rw [h5]; rfl)]
      obtain ⟨k, i, r, t, p, rfl⟩ : ∃ k i r t p, ds = [k, i, r, t, p] := by
        match ds, hl with
        | [k, i, r, t, p], _ => exact ⟨k, i, r, t, p, rfl⟩
        | [], hl => simp at hl; omega
        | [_], hl => simp at hl; omega
        | [_, _], hl => simp at hl; omega
        | [_, _, _], hl => simp at hl; omega
        | [_, _, _, _], hl => simp at hl; omega
        | _ :: _ :: _ :: _ :: _ :: _ :: _, hl => simp at hl; omega
      obtain ⟨xk, w1, rfl, rk, xi, w2, rfl, ri, xr, w3, rfl, rr, xt, w4, rfl, rt, xp, w5, rfl, rp, rfl⟩ := hxs
      have wd : ∀ b1 b2 b3 b4 b5 : Bool, strD "write" k = b1 → wordD 6 true i = b2 → cellsD 0 r = b3 → cellsD 1 t = b4 → priceD p = b5 → entryD (.tuple [k, i, r, t, p]) = (b2 && b1 && b3 && b4 && b5) := fun b1 b2 b3 b4 b5 z1 z2 z3 z4 z5 => by
        show (wordD 6 true i && strD "write" k && cellsD 0 r && cellsD 1 t && priceD p) = _
        rw [z1, z2, z3, z4, z5]
      refine iteT ⟨_, rfl, a, [xk, xi, xr, xt, xp], rfl, .inl (.inl ha), rfl, _, _, rfl, _, _, rfl, _, _, rfl, _, _, rfl, _, _, rfl, rfl, ?_⟩
      refine ⟨_, rfl, k, ex, "write", rfl, rk, _, rfl, ?_⟩
      cases hq : strD "write" k with
      | false =>
        refine iteT ?_
        have e := wd false _ _ _ _ hq rfl rfl rfl rfl
        rw [Bool.and_false, Bool.false_and, Bool.false_and, Bool.false_and] at e
        rw [← e]
        exact q0
      | true =>
        refine iteF ⟨_, rfl, xi, i, ex, rfl, ri, n2 i (by simp), _, rfl, ?_⟩
        cases hw : wordD 6 true i with
        | false =>
          refine iteT ?_
          have e := wd true false _ _ _ hq hw rfl rfl rfl
          rw [Bool.false_and, Bool.false_and, Bool.false_and, Bool.false_and] at e
          rw [← e]
          exact q0
        | true =>
          refine iteF ⟨_, rfl, xp, p, ex, rfl, rp, n2 p (by simp), _, rfl, ?_⟩
          cases hp : priceD p with
          | false =>
            refine iteT ?_
            have e := wd true true _ _ false hq hw rfl rfl hp
            rw [Bool.and_false] at e
            rw [← e]
            exact q0
          | true =>
            refine iteF ⟨_, rfl, _, rfl, xr, r, ex, 0, kd, n, rfl, rr, n2 r (by simp), hk, kn, by omega, fun H2 k2 t2 => ⟨_, rfl, ?_⟩⟩
            cases hr0 : cellsD 0 r with
            | false =>
              refine iteF ?_
              have e := wd true true false _ _ hq hw hr0 rfl rfl
              rw [Bool.and_false, Bool.false_and, Bool.false_and] at e
              rw [← e]
              exact q H2 k2 (t2.more (by omega))
            | true =>
              refine iteT ⟨_, rfl, _, rfl, xt, t, ex, 1, kd, n + 3, rfl, Rp.keep (k2.mono hk') _ _ rt, n2 t (by simp), hk, t2, by omega, fun H3 k3 t3 => ?_⟩
              have e := wd true true true _ true hq hw hr0 rfl hp
              rw [Bool.true_and, Bool.true_and, Bool.true_and, Bool.and_true] at e
              rw [← e]
              exact q H3 (k2.trans k3) (t3.more (by omega))
    · rw [show decide (V.int (xs.length : Int) = V.int 5) = false from decide_eq_false (by intro e; injection e with e; omega)]
      refine iteF ⟨_, rfl, a, xs, rfl, .inr (.inl (.inl ha)), rfl, _, rfl, ?_⟩
      by_cases h3 : xs.length = 3
      · rw [show decide (V.int (xs.length : Int) = V.int 3) = true from decide_eq_true (by rw [h3]; rfl)]
        obtain ⟨k, i, c, rfl⟩ : ∃ k i c, ds = [k, i, c] := by
          match ds, hl with
          | [k, i, c], _ => exact ⟨k, i, c, rfl⟩
          | [], hl => simp at hl; omega
          | [_], hl => simp at hl; omega
          | [_, _], hl => simp at hl; omega
          | _ :: _ :: _ :: _ :: _, hl => simp at hl; omega
        obtain ⟨xk, w1, rfl, rk, xi, w2, rfl, ri, xc, w3, rfl, rc, rfl⟩ := hxs
        have qd : ∀ b1 b2 b3 : Bool, strD "query" k = b1 → wordD 6 true i = b2 → cellsD 1 c = b3 → entryD (.tuple [k, i, c]) = (b2 && b1 && b3) := fun b1 b2 b3 z1 z2 z3 => by
          show (wordD 6 true i && strD "query" k && cellsD 1 c) = _
          rw [z1, z2, z3]
        refine iteT ⟨_, rfl, a, [xk, xi, xc], rfl, .inl (.inl ha), rfl, _, _, rfl, _, _, rfl, _, _, rfl, rfl, ?_⟩
        refine ⟨_, rfl, k, ex, "query", rfl, rk, _, rfl, ?_⟩
        cases hq : strD "query" k with
        | false =>
          refine iteF ?_
          have e := qd false _ _ hq rfl rfl
          rw [Bool.and_false, Bool.false_and] at e
          rw [← e]
          exact q0
        | true =>
          refine iteT ⟨_, rfl, xi, i, ex, rfl, ri, n2 i (by simp), _, rfl, ?_⟩
          cases hw : wordD 6 true i with
          | false =>
            refine iteF ?_
            have e := qd true false _ hq hw rfl
            rw [Bool.false_and, Bool.false_and] at e
            rw [← e]
            exact q0
          | true =>
            refine iteT ⟨_, rfl, _, rfl, xc, c, ex, 1, kd, n, rfl, rc, n2 c (by simp), hk, kn, by omega, fun H2 k2 t2 => ?_⟩
            have e := qd true true _ hq hw rfl
            rw [Bool.true_and, Bool.true_and] at e
            rw [← e]
            exact q H2 k2 (t2.more (by omega))
      · rw [show decide (V.int (xs.length : Int) = V.int 3) = false from decide_eq_false (by intro e; injection e with e; omega)]
        refine iteF ?_
        rw [← entry_len (ds := ds) (by omega) (by omega)]
        exact q0
end
end NV
/-! SetCT -/
set_option Elab.async false
set_option linter.all false
set_option maxRecDepth 100000
set_option maxHeartbeats 2000000
/-! {elt for x in t}: the texts that elt gives for the items of a tuple, as a set -/
namespace NV
open PySem PySem.Spec PyProof.Rows L2
section
variable {P : Program} {w : World} {A : Around} {E : Value → Shared → Prop} {s : Shared} {a : Addr} {S : Str → Bool} {n : Nat}
/-- a text goes into a set of texts -/
theorem setT_put {z : Str} {t : Tok} {Q : Value → Shared → Prop} (R : SetG (PySem.strKind P w) tKey s.heap a S n) (room : n + 1 < scanBound)
    (fin : ∀ g, Heap.SameBut a s.heap g → SetG (PySem.strKind P w) tKey g a (fun j => S j || decide (j = z)) (if S z = true then n else n + 1) → ∀ tk, Q .none { s with heap := g, toks := tk }) :
    wpAny (model P w) A (call (.builtin "set.add") [.ref a, .str z t]) Q E s := by
  have isz : (PySem.strKind P w).is z (.str z t) = true := by show (z == z) = true; exact beq_self_eq_true z
  refine wpAny_call_entry F.slot_set_add (SetG.plain tKey_ok R).typeIs F.entry_set_add ?_ (F.args_set_add_2 _ _)
  unfold Builtin.«set.add» Builtin.Frozenset.oneOther
  simp only [List.isEmpty_nil, bind_assoc]
  unfold Builtin.Frozenset.addrOf setAdd
  refine wpAny_bind (wpAny_pure ?_)
  try dsimp only
  refine wpAny_bind (wpAny_pure ?_)
  try dsimp only
  refine wpAny_bind (wpAny_holding (wpAny_bind ((PySem.strKind P w).pyHash isz ?_)))
  refine setG_add_hashed (s := { s with toks := s.toks + 1 }) tKey_ok isz rfl R room fun g sb r => ?_
  show wpAny _ _ (ret Value.none) _ _ _
  exact wpAny_pure ⟨_, rfl, fin g sb r _⟩
end
section
variable {X : Cx}
/-- the texts zs stand for the items in turn; elt leaves the memory as it finds it -/
def tSetC (K : PySem.W.Frag) (P : Program) (w : World) (i : Nat) (tl te : TE) : TE := fun σ H Q => iTup K tl σ H fun J H1 => ∃ (a : Addr) (xs : List V) (zs : List Str), J = Itt K a ∧ SqT K H1 a xs ∧ zs.length = xs.length ∧ zs.length < 1000 ∧
  (∀ (j : Nat) (x : V) (z : Str) (H2 : Hp) (Q2 : VK), xs[j]? = some x → zs[j]? = some z → Kp [] H1 H2 → Q2 (.str z) H2 → te ((wipe σ [i]).set i (some x)) H2 Q2) ∧
  ∀ (D : Addr) (n : Nat), n ≤ zs.length → (n = zs.length ↔ zs.Nodup) → H1 D = none → Q (.ref D) (upd H1 D (SetT P w D (fun j => decide (j ∈ zs)) n))
/-- what the set's members are after j turns -/
def upTo (zs : List Str) (j : Nat) : Str → Bool := fun k => decide (k ∈ zs.take j)
theorem upTo_zero (zs : List Str) : upTo zs 0 = fun _ => false := by
  funext k
  unfold upTo
  simp
theorem upTo_next {zs : List Str} {j : Nat} {z : Str} (h : zs[j]? = some z) : (fun k => upTo zs j k || decide (k = z)) = upTo zs (j + 1) := by
  funext k
  unfold upTo
  rw [List.take_add_one, h]
  simp [List.mem_append]
theorem upTo_all (zs : List Str) : upTo zs zs.length = fun k => decide (k ∈ zs) := by
  funext k
  unfold upTo
  rw [List.take_length]
theorem pe_setC {elt tg iter : Expr} {i : Nat} {scope : Scope} {own : List (PySem.Str × Nat)} {pos : Pos} {tl te : TE} (K : PySem.W.Frag) (P : Program) (w : World) (hc : X.calm = true) (hN : X.N.Nodup) (hl : PE X iter tl) (ok : BlkOk X.N X.env.scope scope own)
    (hg : ∀ (s : Shared) (H : Hp) (C : Addr) (cl : List (PySem.Str × Addr)) (fp : List Addr), PG (X.blk s H scope (compEnvC scope cl C X.env) fp) tg (gName i))
    (he : ∀ (s : Shared) (H : Hp) (C : Addr) (cl : List (PySem.Str × Addr)) (fp : List Addr), PE (X.blk s H scope (compEnvC scope cl C X.env) fp) elt te)
    (how : own.map (·.2) = [i] := by rfl) (hs : ∀ x, foldedSetIterable iter X.env x = pure x := by intro _; rfl) (hK : X.K = K := by rfl) (hP : X.prog = P := by rfl) (hw : X.w = w := by rfl) :
    PE X (.SetComp elt [⟨tg, iter, [], 0⟩] scope pos) (tSetC K P w i tl te) := by
  subst hK hP hw
  constructor
  intro pins s σ H Q I h
  rw [PpSet.eval_SetComp]
  have cells : ∀ y ∈ scope.names, y.2 = .free → ∃ c, X.env.cells.lookup y.1 = some c := fun y hy e => (ok.free y hy e).elim (fun z => I.ok.has _ (.inl z)) fun z => I.ok.has _ (.inr z)
  have tup : PI X tg iter (iTup X.K tl) := pi_tup hl
  refine wpAny_comprehension_free (use := none) rfl hs (closure_ok cells) ok.kind (fun y hy e => (ok.uniq y hy).trans (congrArg some e)) ?_
  refine thn (tup.run pins s σ H _ I h) fun _ _ came => thn came fun _ sa ⟨it, fp, tn, _, Ha, e1, Ia, T, t0, off, a, xs, zs, e2, hx, hlen, hmany, step, fin⟩ => ?_
  subst e1 e2
  refine PpSet.newSet_ok (newEnv_comp ?_)
  -- D: the new set
  obtain ⟨D, hD⟩ : ∃ D, sa.heap.objs.size = D := ⟨_, rfl⟩
  rw [hD]
  have noD : Ha D = none := Ia.hok.fresh (Nat.le_of_eq hD)
  obtain ⟨sb, esb⟩ : ∃ sb : Shared, { sa with heap := sa.heap.push (blank X.w) } = sb := ⟨_, rfl⟩
  have hb : sb.heap = sa.heap.push (blank X.w) := by rw [← esb]
  have grow : ∀ b o, sa.heap.get? b = some o → sb.heap.get? b = some o := fun b o e => by rw [hb]; exact Heap.get?_push_of_some _ e
  have newD : sb.heap.get? D = some (blank X.w) := by rw [hb, ← hD]; exact Heap.get?_push_size _ rfl
  have Ib : Inv X pins σ (upd Ha D (SetT X.prog X.w D (fun _ => false) 0)) sb := by
    rw [← esb]
    exact Ia.laid (t' := sa.toks) (fun b o e => Heap.get?_push_of_some _ e) (Nat.le_of_eq hD) (setT_new (SetG.start (by rw [← hb]; exact newD) rfl))
  obtain ⟨Hb, eHb⟩ : ∃ Hb, upd Ha D (SetT X.prog X.w D (fun _ => false) 0) = Hb := ⟨_, rfl⟩
  rw [eHb] at Ib
  have few : ∀ b ∈ fp, b < D := fun b m => by
    obtain ⟨o, e, _⟩ := T.obj 0 _ t0 b m
    rw [← hD]
    exact Heap.lt_size e
  have offB : ∀ b ∈ fp, FpOk X pins Hb b ∧ b < sb.heap.objs.size := fun b m => by
    have lt := few b m
    refine ⟨⟨?_, (off b m).2⟩, ?_⟩
    · rw [← eHb, upd_ne (Nat.ne_of_lt lt)]
      exact (off b m).1
    · rw [hb, Heap.size_push, hD]
      exact Nat.lt_succ_of_lt lt
  have It := block_start Ib ok hN offB
  obtain ⟨C, hC⟩ : ∃ C, sb.heap.objs.size = C := ⟨_, rfl⟩
  have gg := hg sb Hb C (cellsFrom (C + 1) scope.names (cloFrom X.env.cells scope.names [])) fp
  have ee := he sb Hb C (cellsFrom (C + 1) scope.names (cloFrom X.env.cells scope.names [])) fp
  rw [how, hC] at It
  have esa : ({ sa with heap := sa.heap.push (blank X.w) } : Shared).heap.objs.size = C := by rw [esb]; exact hC
  show codeAny _ _ (.compStart _ 0 (.ref it) (.ref D) (compEnvC scope (cellsFrom (({ sa with heap := sa.heap.push (blank X.w) } : Shared).heap.objs.size + 1) scope.names (cloFrom X.env.cells scope.names [])) ({ sa with heap := sa.heap.push (blank X.w) } : Shared).heap.objs.size X.env)) (compPost _ _ _ none _ (.ref D) ({ sa with heap := sa.heap.push (blank X.w) } : Shared).heap.objs.size) { ({ sa with heap := sa.heap.push (blank X.w) } : Shared) with heap := pushCells (({ sa with heap := sa.heap.push (blank X.w) } : Shared).heap.push { cls := .type "dict", data := .dict #[] }) scope.names }
  rw [esb, hC]
  obtain ⟨N, eN⟩ : ∃ N, compEnvC scope (cellsFrom (C + 1) scope.names (cloFrom X.env.cells scope.names [])) C X.env = N := ⟨_, rfl⟩
  have locN : N.locals = C := by rw [← eN]; rfl
  rw [eN] at It gg ee ⊢
  obtain ⟨sc, esc⟩ : ∃ sc : Shared, { sb with heap := pushCells (sb.heap.push { cls := .type "dict", data := .dict #[] }) scope.names } = sc := ⟨_, rfl⟩
  rw [esc] at It ⊢
  have tc : tn 0 sc.heap := T.keep _ _ _ t0 fun b _ o e => by
    rw [← esc]
    exact pushCells_keeps _ _ _ _ (Heap.get?_push_of_some _ (grow b o e))
  -- the iterator's objects stay as they are while the block runs
  have still : ∀ {τ : L2.St} {H' : Hp} {s' : Shared}, Inv (X.blk sb Hb scope N fp) [] τ H' s' → (∀ b ∈ fp, H' b = none) → ∀ b ∈ fp, FpOk (X.blk sb Hb scope N fp) [] H' b := fun J none b m =>
    ⟨none b m, (J.ok.exf b m).1, J.ok.exfs b m, .inl m, fun x c e => (J.ok.exf b m).2 x c e, fun p hp => by cases hp⟩
  have tupAt : ∀ {c : Nat} {S : Str → Bool}, SqT X.K (upd Ha D (SetT X.prog X.w D S c)) a xs := fun {c S} => Kp.seqT (ex := []) (Kp.laid noD) (by simp) hx
  let W : Nat → Shared → Prop := fun m s' => ∃ j c, m = xs.length - j ∧ j ≤ xs.length ∧ c ≤ j ∧ Inv (X.blk sb Hb scope N fp) [] (wipe σ [i]) (upd Ha D (SetT X.prog X.w D (upTo zs j) c)) s' ∧ tn j s'.heap ∧ ∀ b ∈ fp, upd Ha D (SetT X.prog X.w D (upTo zs j) c) b = none
  have start : W xs.length sc := ⟨0, 0, by omega, Nat.zero_le _, Nat.le_refl _, by rw [upTo_zero, eHb]; exact It, tc, fun b m => by rw [upTo_zero, eHb]; exact (offB b m).1.1⟩
  refine PpSet.codeAny_compStart_set ?loop (T.self X.A 0 _ _ _ tc ?loop)
  refine PpSet.compLoopS_any W (fun m s' hW => ?_) xs.length start
  obtain ⟨j, c, rfl, hj, hcj, J, tj, noJ⟩ := hW
  rcases Nat.lt_or_ge j xs.length with lt | ge
  · -- one more item
    have hxj : xs[j]? = some xs[j] := List.getElem?_eq_getElem lt
    have ltz : j < zs.length := by omega
    have hzj : zs[j]? = some zs[j] := List.getElem?_eq_getElem ltz
    refine thnF (T.item (X.blk sb Hb scope N fp) rfl rfl rfl hc j [] s' _ _ (fun _ _ => False) J (still J noJ) tj ⟨xs, xs[j], tupAt, hxj⟩) fun r s1 ⟨u, er, h1⟩ => ?_
    subst er
    refine thnF h1 fun _ s2 ⟨x, H2, J2, ru, ⟨eH, yx⟩, t2, no2⟩ => ?_
    have ex : xs[j]? = some x := yx xs tupAt
    rw [hxj] at ex
    cases ex
    subst eH
    have J2p := J2.pinned (still J2 no2) (T.obj _ _ t2)
    refine thnF (gg.run _ s2 _ _ _ u (fun τ H3 => τ = (wipe σ [i]).set i (some xs[j]) ∧ H3 = upd Ha D (SetT X.prog X.w D (upTo zs j) c)) J2p ru ⟨rfl, rfl⟩) fun _ s3 ⟨τ, H3, J3, eτ, eH3⟩ => ?_
    subst eτ eH3
    refine wpAny_pure ?_
    show if true = true then _ else _
    rw [if_pos rfl]
    refine thnF (ee.run _ s3 _ _ (fun v H4 => v = .str zs[j] ∧ H4 = upd Ha D (SetT X.prog X.w D (upTo zs j) c)) J3 (step j _ _ _ _ hxj hzj (Kp.laid noD) ⟨rfl, rfl⟩)) fun u4 s4 ⟨v4, H4, J4, r4, ev, eH4⟩ => ?_
    subst ev eH4
    obtain ⟨t4, rfl⟩ : ∃ t, u4 = Value.str zs[j] t := r4
    have room : c + 1 < scanBound := by unfold scanBound; omega
    refine setT_put (setT_get (X := X.blk sb Hb scope N fp) J4 upd_same) room fun g sm R tk => ?_
    have gone : ∃ u, g.get? D = some u := by
      obtain ⟨o, _, _, _, ⟨ho, _⟩, _⟩ := R
      exact ⟨o, ho⟩
    have J5 := J4.write (e := D) (t' := tk) (by rw [upd_same]; trivial) (.inl rfl) (fun b u hbD hu => (sm.2 b hbD).trans hu) gone (setT_new R)
    rw [upd_upd, upTo_next hzj] at J5
    have pin : ∀ b ∈ fp, ∀ o, s2.heap.get? b = some o → g.get? b = some o ∧ _ := fun b m o e => J5.pin (b, o) (List.mem_append_right _ (List.mem_append_right _ (mem_pinsAt m e)))
    have len : (wipe σ [i]).length = ((wipe σ [i]).set i (some xs[j])).length := by rw [List.length_set]
    refine ⟨xs.length - (j + 1), by omega, j + 1, if upTo zs j zs[j] = true then c else c + 1, rfl, lt, by split <;> omega, (J5.unpinned (pins := [])).weak len (fun k v e => ?_), T.keep _ _ _ t2 fun b m o e => (pin b m o e).1, fun b m => ?_⟩
    · have ne : i ≠ k := fun z => (wipe_some e).2 (by rw [z]; exact List.mem_singleton.mpr rfl)
      rw [List.getElem?_set_ne ne]
      exact e
    · obtain ⟨o, e, _⟩ := T.obj _ _ t2 b m
      exact (pin b m o e).2.1
  · -- the end
    have ej : j = xs.length := by omega
    have ejz : j = zs.length := by omega
    refine thnF (T.done (X.blk sb Hb scope N fp) rfl rfl rfl hc j [] s' _ _ (fun _ _ => False) J (still J noJ) tj ⟨xs, tupAt, ge⟩) fun r s1 ⟨er, J1⟩ => ?_
    subst er
    have sets := setG_size (P := X.prog) (w := X.w) (zs := zs) (n := c) (a := D) (h := s1.heap) (by have := setT_get (X := X.blk sb Hb scope N fp) J1 upd_same; rw [ejz, upTo_all] at this; exact this)
    have noC : (upd Ha D (SetT X.prog X.w D (upTo zs j) c)) C = none := by
      have z : (upd Ha D (SetT X.prog X.w D (upTo zs j) c)) N.locals = none := J1.free
      rw [locN] at z
      exact z
    obtain ⟨m, hm, _⟩ := J1.loc
    have hm : s1.heap.Ns N.locals m := hm
    rw [locN] at hm
    have J2 : Inv X pins σ (upd Ha D (SetT X.prog X.w D (upTo zs j) c)) s1 := Ib.call' (ch := fp) J1.os J1.base J1.hok J1.bare fun b hb => ⟨(offB b hb).1.2.2.2.1, (offB b hb).1.2.1, (offB b hb).1.2.2.2.2.1, (offB b hb).1.2.2.2.2.2⟩
    obtain ⟨f0, f1, f2, f3, f4, f5⟩ := Ib.fpOk (Nat.le_of_eq hC) noC
    refine ⟨m, hm, fun g sm => ⟨.ref D, _, J2.turned (t' := s1.toks) (fun b o ne e => (sm.2 b ne).trans e) f0 f1 f3 f4 f5, rfl, ?_⟩⟩
    rw [ejz, upTo_all]
    exact fin D c sets.1 sets.2 noD
end
end NV
/-! L9a -/
set_option Elab.async false
set_option linter.all false
set_option maxRecDepth 100000
set_option maxHeartbeats 1000000
namespace NV
open PySem PySem.Spec PyProof.Rows L2
open C8 (pss_cut)
section
variable {X : Cx} {nm : Str} {st : Stmt} {ps ks : List Str} {sp : Sp} {p pos : Pos} {kws : List Keyword} {tk : TA}
theorem pe_kw0 {j k : Nat} (D : Fn X.K X.mg nm st ps) (G : FnOk X.prog X.w X.K X.mg X.base CX0 j D.f D.fd ps sp) (hr : Room k X.A) (hb : KBinds X.K D.fd ps ks (· ++ ·) (· ++ ·)) (hkw : PK X kws tk)
    (hk : j ≤ k := by decide) (hg : Gl X nm := by rfl) (hall : (backToKw pos (keywordEach kws X.env)).all (·.1.isSome) = true := by rfl) (hks : (backToKw pos (keywordEach kws X.env)).filterMap (·.1) = ks := by rfl) (hdb : (nm == ("__debug__" : Str)) = false := by decide)
    (hpl : ((backTo pos (starEach [] X.env)).any (·.1) || (backToKw pos (keywordEach kws X.env)).any (·.1.isNone)) = false := by rfl) :
    PE X (.Call (.Name nm p) [] kws pos) (tCallK sp (· ++ ·) (fun _ _ _ => False) tNil tk) := by
  refine ⟨fun pins s σ H Q I h => wpAny_Call_Name_kw (ld_glob I hg D.m ?_ hdb)⟩
  refine PySem.W.callWith_KW0 (h₀ := X.base) I.ok.mod.kin D.F.kp hall (thn (hkw.run pos pins s σ H _ I h) fun ws s2 ⟨zs, H2, I2, rz, q2⟩ => ⟨I2.kIn, ?_⟩) hpl
  rw [hks]
  exact run_fnk G (hr.mono hk) hb pass0 I2 .nil rz q2
theorem sltAE (K : PySem.W.Frag) (h : X.K = K := by rfl) : SlR X (rSlA K) := by
  rw [← h]; exact sl_tupA
end
/-! ### tables that grow beside -/
def Tabs (T : List Addr) (H : Hp) : Prop := ∀ p ∈ T, GxR.TabG H p
theorem Tabs.kp {T : List Addr} {H H' : Hp} (t : Tabs T H) (k : Kp [] H H') : Tabs T H' := fun p hp => by
  obtain ⟨ps, e, o⟩ := t p hp
  exact ⟨ps, k _ _ (by simp) e, o⟩
/-- n draws are left, the tables T stand -/
structure DT (D : Dr) (T : List Addr) (n : Nat) (H : Hp) : Prop where
  dr : DrAt D n H
  tb : Tabs T H
section
variable {D : Dr} {T : List Addr} {n m : Nat} {H H' : Hp}
theorem DT.off (d : DT D T n H) {p : Addr} (hp : p ∈ T) : p ∉ D.all := fun z => by
  obtain ⟨ps, e, _⟩ := d.tb p hp
  obtain ⟨_, large, items, left, turn, h1, h2, h3, _⟩ := d.dr
  rcases List.mem_cons.mp z with z | z
  · rw [z, h1] at e; cases e
  · rcases List.mem_cons.mp z with z | z
    · rw [z, h2] at e; cases e
    · rw [List.mem_singleton.mp z, h3] at e; cases e
theorem DT.less (d : DT D T n H) (h : m ≤ n) : DT D T m H := ⟨d.dr.less h, d.tb⟩
theorem DT.keep (d : DT D T n H) (k : Kp [] H H') : DT D T n H' := ⟨d.dr.keep k, d.tb.kp k⟩
theorem DT.draw (d : DT D T n H) (k : Kp D.ex H H') (d' : DrAt D m H') : DT D T m H' := ⟨d', fun p hp => by
  obtain ⟨ps, e, o⟩ := d.tb p hp
  exact ⟨ps, k _ _ (Dr.sub (d.off hp)) e, o⟩⟩
theorem DT.pkg (d : DT D T n H) (k : Kp T H H') (t : Tabs T H') : DT D T n H' := by
  refine ⟨?_, t⟩
  have nT : ∀ b ∈ D.all, b ∉ T := fun b hb z => d.off z hb
  obtain ⟨h0, large, items, left, turn, h1, h2, h3, h4⟩ := d.dr
  exact ⟨h0, large, items, left, turn, k _ _ (nT _ (by simp)) h1, k _ _ (nT _ (by simp)) h2, k _ _ (nT _ (by simp)) h3, h4⟩
theorem DT.live (d : DT D T n H) : Live (T ++ D.ex) H := fun b hb => by
  rcases List.mem_append.mp hb with z | z
  · obtain ⟨ps, e, _⟩ := d.tb b z
    rw [e]; exact fun q => nomatch q
  · obtain ⟨_, large, items, left, turn, h1, h2, _⟩ := d.dr
    rcases List.mem_cons.mp z with z | z
    · rw [z, h1]; exact fun q => nomatch q
    · rw [List.mem_singleton.mp z, h2]; exact fun q => nomatch q
theorem DT.fresh (d : DT D T n H) {p : Addr} (hp : H p = none) : p ∉ T ++ D.ex := d.live.fresh hp
end
/-- a comprehension over a list or a tuple whose element lays things and lets tables grow -/
theorem lc_growLT {K : PySem.W.Frag} {tt : TT} {te : TE} {i : Nat} {σ : L2.St} {C a : Addr} {T : List Addr} {xs : List V} {H1 : Hp} {Qd : Hp → Prop} (f : Nat → V) (ha : H1 a = some (.lst xs)) (nC : H1 C = none) (tb : Tabs T H1) (hz : xs.length < sizeLine)
    (htt : ∀ (H : Hp) (Q : Bool → Hp → Prop) (x : V), Q true H → tt ((wipe σ [i]).set i (some x)) H Q)
    (hte : ∀ (j : Nat) (x : V) (H : Hp) (Q : V → Hp → Prop), xs[j]? = some x → Kp T H1 H → Tabs T H → (∀ H', Kp T H H' → Tabs T H' → Q (f j) H') → te ((wipe σ [i]).set i (some x)) H Q)
    (hd : ∀ H', Kp T H1 H' → Tabs T H' → H' C = some (.lst ((List.range xs.length).map f)) → Qd H') :
    ∃ W : Nat → Nat → Hp → Prop, (∃ m, W 0 m (upd H1 C (.lst []))) ∧ ∀ i' m H, W i' m H →
      ((Itl K a).stop i' H ∧ Qd H) ∨ ((Itl K a).go i' H ∧ ∃ Nx : Hp → Prop, (∀ H', Nx H' → ∃ m', m' < m ∧ W (i' + 1) m' H') ∧ ∀ x H', (Itl K a).yld i' H x H' → gName i x (wipe σ [i]) H' fun σ2 H2 => wipe σ2 [i] = wipe σ [i] ∧ tt σ2 H2 fun b H3 =>
        if b = true then te σ2 H3 fun y H4 => ∃ acc, H4 C = some (.lst acc) ∧ acc.length < sizeLine ∧ Nx (upd H4 C (.lst (acc ++ [y]))) else Nx H3) := by
  have nT : ∀ {b : Addr} {xs : List V}, H1 b = some (.lst xs) → b ∉ T := fun e z => by
    obtain ⟨ps, e', _⟩ := tb _ z
    rw [e] at e'
    cases e'
  have CT : C ∉ T := fun z => by
    obtain ⟨ps, e', _⟩ := tb _ z
    rw [nC] at e'
    cases e'
  have step : ∀ {H : Hp}, Kp (C :: T) H1 H → Kp T H1 H := fun k b o hb e => k b o (fun z => by
    rcases List.mem_cons.mp z with z | z
    · rw [z, nC] at e; cases e
    · exact hb z) e
  refine lc_list (K := K) (a := a) (xs := xs) (fun j H' => Kp (C :: T) H1 H' ∧ Tabs T H' ∧ H' C = some (.lst ((List.range j).map f))) ⟨Kp.laid nC, tb.kp (Kp.laid nC), upd_same⟩ (fun j H' _ e => .inl (.inl (step e.1 _ _ (nT ha) ha))) (fun j x H' hx e => ?_) (fun H' e => hd H' (step e.1) e.2.1 e.2.2)
  obtain ⟨k1, t1, e1⟩ := e
  have hj : j < xs.length := (List.getElem?_eq_some_iff.mp hx).1
  refine ⟨wipe_again, htt _ _ x ?_⟩
  refine iteT (hte j x _ _ hx (step k1) t1 fun H3 k3 t3 => ⟨_, k3 _ _ CT e1, ?_, ?_⟩)
  · rw [List.length_map, List.length_range]
    omega
  · refine ⟨(k1.trans (k3.mono fun b hb => List.mem_cons_of_mem _ hb)).trans (Kp.put (by simp)), fun p hp => ?_, ?_⟩
    · obtain ⟨ps, e', o⟩ := t3 p hp
      exact ⟨ps, by rw [upd_ne (fun z => CT (by rw [← z]; exact hp))]; exact e', o⟩
    · rw [upd_same, List.range_succ, List.map_append]
      rfl
theorem lc_growTT {K : PySem.W.Frag} {tt : TT} {te : TE} {i : Nat} {σ : L2.St} {C a : Addr} {T : List Addr} {xs : List V} {H1 : Hp} {Qd : Hp → Prop} (f : Nat → V) (ha : H1 a = some (.tup xs)) (nC : H1 C = none) (tb : Tabs T H1) (hz : xs.length < sizeLine)
    (htt : ∀ (H : Hp) (Q : Bool → Hp → Prop) (x : V), Q true H → tt ((wipe σ [i]).set i (some x)) H Q)
    (hte : ∀ (j : Nat) (x : V) (H : Hp) (Q : V → Hp → Prop), xs[j]? = some x → Kp T H1 H → Tabs T H → (∀ H', Kp T H H' → Tabs T H' → Q (f j) H') → te ((wipe σ [i]).set i (some x)) H Q)
    (hd : ∀ H', Kp T H1 H' → Tabs T H' → H' C = some (.lst ((List.range xs.length).map f)) → Qd H') :
    ∃ W : Nat → Nat → Hp → Prop, (∃ m, W 0 m (upd H1 C (.lst []))) ∧ ∀ i' m H, W i' m H →
      ((Itt K a).stop i' H ∧ Qd H) ∨ ((Itt K a).go i' H ∧ ∃ Nx : Hp → Prop, (∀ H', Nx H' → ∃ m', m' < m ∧ W (i' + 1) m' H') ∧ ∀ x H', (Itt K a).yld i' H x H' → gName i x (wipe σ [i]) H' fun σ2 H2 => wipe σ2 [i] = wipe σ [i] ∧ tt σ2 H2 fun b H3 =>
        if b = true then te σ2 H3 fun y H4 => ∃ acc, H4 C = some (.lst acc) ∧ acc.length < sizeLine ∧ Nx (upd H4 C (.lst (acc ++ [y]))) else Nx H3) := by
  have nT : ∀ {b : Addr} {xs : List V}, H1 b = some (.tup xs) → b ∉ T := fun e z => by
    obtain ⟨ps, e', _⟩ := tb _ z
    rw [e] at e'
    cases e'
  have CT : C ∉ T := fun z => by
    obtain ⟨ps, e', _⟩ := tb _ z
    rw [nC] at e'
    cases e'
  have step : ∀ {H : Hp}, Kp (C :: T) H1 H → Kp T H1 H := fun k b o hb e => k b o (fun z => by
    rcases List.mem_cons.mp z with z | z
    · rw [z, nC] at e; cases e
    · exact hb z) e
  refine lc_tup (K := K) (a := a) (xs := xs) (fun j H' => Kp (C :: T) H1 H' ∧ Tabs T H' ∧ H' C = some (.lst ((List.range j).map f))) ⟨Kp.laid nC, tb.kp (Kp.laid nC), upd_same⟩ (fun j H' _ e => .inl (.inl (step e.1 _ _ (nT ha) ha))) (fun j x H' hx e => ?_) (fun H' e => hd H' (step e.1) e.2.1 e.2.2)
  obtain ⟨k1, t1, e1⟩ := e
  have hj : j < xs.length := (List.getElem?_eq_some_iff.mp hx).1
  refine ⟨wipe_again, htt _ _ x ?_⟩
  refine iteT (hte j x _ _ hx (step k1) t1 fun H3 k3 t3 => ⟨_, k3 _ _ CT e1, ?_, ?_⟩)
  · rw [List.length_map, List.length_range]
    omega
  · refine ⟨(k1.trans (k3.mono fun b hb => List.mem_cons_of_mem _ hb)).trans (Kp.put (by simp)), fun p hp => ?_, ?_⟩
    · obtain ⟨ps, e', o⟩ := t3 p hp
      exact ⟨ps, by rw [upd_ne (fun z => CT (by rw [← z]; exact hp))]; exact e', o⟩
    · rw [upd_same, List.range_succ, List.map_append]
      rfl
/-- the package's promises, its tables T beside -/
def spIsLogT (T : List Addr) : Sp := fun vs H Q _ => ∃ (v : V) (d : PyData) (ex : List Addr), vs = [v] ∧ Rp ex H d v ∧ Good d ∧ (∀ p ∈ T, p ∈ ex) ∧ Tabs T H ∧ ∀ H', Kp T H H' → Tabs T H' → Q (.bl (logD' d)) H'
def spIsEntryT (T : List Addr) : Sp := fun vs H Q _ => ∃ (v : V) (d : PyData) (ex : List Addr), vs = [v] ∧ Rp ex H d v ∧ Good d ∧ (∀ p ∈ T, p ∈ ex) ∧ Tabs T H ∧ ∀ H', Kp T H H' → Tabs T H' → Q (.bl (entryD d)) H'
end NV
/-! Q4 -/
set_option Elab.async false
set_option linter.all false
set_option maxRecDepth 100000
set_option maxHeartbeats 600000
/-! the package's is_log -/
namespace NV
open PySem PySem.Spec PyProof.Rows L2
open C8 (pss_cut pe_gc)
abbrev sIsLogWithin : Stmt := topS 27
theorem scIsLogWithin : FnScope ["value", "most", "known", "entry"] ["value", "most"] (defScope sIsLogWithin) := ⟨rfl, rfl, rfl, by decide +kernel, rfl, by decide +kernel, by decide +kernel⟩
abbrev sIsLog : Stmt := topS 28
theorem scIsLog : FnScope ["value"] ["value"] (defScope sIsLog) := ⟨rfl, rfl, rfl, by decide +kernel, rfl, by decide +kernel, by decide +kernel⟩
/-- a log but for its length -/
def logDn (m : Nat) : PyData → Bool
  | .tuple ds => decide (ds.length ≤ m) && ds.all entryD && decide ((ds.map idOfD).Nodup)
  | _ => false
theorem logDn_no {m : Nat} {d : PyData} (h : isD "tuple" d = false) : logDn m d = false := by
  cases d with
  | tuple ds => exact absurd h (by simp [isD, tyN])
  | _ => rfl
theorem logDn_60 (d : PyData) : logDn 60 d = logD' d := by cases d <;> rfl
mutual
theorem Rp.apart {ex : List Addr} {H : Hp} {p : Addr} (hp : H p = none) : ∀ (d : PyData) (v : V), Rp ex H d v → Rp (p :: ex) H d v
  | .none, _, h => h
  | .bool _, _, h => h
  | .int _, _, h => h
  | .str _, _, h => h
  | .list ds, v, h => by
    obtain ⟨a, xs, e, na, h1, h2⟩ := h
    exact ⟨a, xs, e, fun z => (List.mem_cons.mp z).elim (fun q => by rw [q, hp] at h1; cases h1) na, h1, RpAll.apart hp ds xs h2⟩
  | .tuple ds, v, h => by
    obtain ⟨a, xs, e, na, h1, h2⟩ := h
    exact ⟨a, xs, e, fun z => (List.mem_cons.mp z).elim (fun q => by rw [q, hp] at h1; cases h1) na, h1, RpAll.apart hp ds xs h2⟩
  | .dict kvs, v, h => by
    obtain ⟨e0, a, e, na, h1⟩ := h
    exact ⟨e0, a, e, fun z => (List.mem_cons.mp z).elim (fun q => by rw [q, hp] at h1; cases h1) na, h1⟩
theorem RpAll.apart {ex : List Addr} {H : Hp} {p : Addr} (hp : H p = none) : ∀ (ds : List PyData) (vs : List V), RpAll ex H ds vs → RpAll (p :: ex) H ds vs
  | [], _, h => h
  | d :: ds, vs, h => by
    obtain ⟨v, ws, e, h1, h2⟩ := h
    exact ⟨v, ws, e, Rp.apart hp d v h1, RpAll.apart hp ds ws h2⟩
end
/-- a predicate of data, asked by a def that only lays new things -/
def spAskD (f : PyData → Bool) : Sp := fun vs H Q _ => ∃ (v : V) (d : PyData) (ex : List Addr), vs = [v] ∧ Rp ex H d v ∧ niceD d = true ∧ ∀ H', Kp [] H H' → Q (.bl (f d)) H'
def spAskN : Sp := fun vs H Q _ => ∃ (v : V) (d : PyData) (m : Nat) (ex : List Addr), vs = [v, .int (m : Nat)] ∧ m ≤ 900 ∧ Rp ex H d v ∧ niceD d = true ∧ ∀ H', Kp [] H H' → Q (.bl (logDn m d)) H'
section
variable {P : Program} {w : World} {K : PySem.W.Frag} {mg : Str → Option Value} {base : Heap}
theorem ok_plogw (DIsLogWithin : Fn K mg "is_log_within" sIsLogWithin ["value", "most"]) (DIsEntryWith : Fn K mg "is_entry_with" sIsEntryWith ["value", "known"]) (b_isinstance : mg "isinstance" = none) (b_len : mg "len" = none) (b_tuple : mg "tuple" = none) (g2 : ∃ u, mg "ID" = some u ∧ L2.RelV (.int 1) u)
    (GIsEntryWith : FnOk P w K mg base CX0 4 DIsEntryWith.f DIsEntryWith.fd ["value", "known"] spEntryK) : FnOk P w K mg base CX0 5 DIsLogWithin.f DIsLogWithin.fd ["value", "most"] spAskN := by
  refine DIsLogWithin.F.ok scIsLogWithin (fun vs H Q E h => ?_) (fun cdv A outer s H vs Q E hr h => ?_)
  · obtain ⟨v, d, m, ex, rfl, _⟩ := h
    rfl
  obtain ⟨v, d, m, ex, rfl, hm, hd, hn, q⟩ := h
  refine ⟨_, pss_cons (ps_if (PW.pt (pw_or (pt_not (pt_val (pe_callB (cr_isD (T := "tuple") (by decide)) (by rfl) b_isinstance (by decide +kernel) (pa_cons (pv 0) (pa_cons (pe_bltn (v := .ty "tuple") rfl b_tuple (by rfl) rfl) pa_nil))))) (pw_or1 (pt_cmpR op_gt (pe_callB (lenE K) (by rfl) b_len (by decide +kernel) (pa_cons (pv 0) pa_nil)) (pv 1) (nomark _)))))
      (pss_one (ps_ret pe_bl))
      pss_nil)
      (pss_cons (ps_set (i := 2) scIsLogWithin.nd rfl (.inl rfl) pe_dnewK)
      (pss_cons (ps_for PassesOwn.never rfl (piTupE K (pv 0)) (pg_name (i := 3) scIsLogWithin.nd rfl (.inl rfl))
      (pss_one (ps_if (pt_not (pt_val (pe_fn DIsEntryWith GIsEntryWith hr (pa_cons (pv 3) (pa_cons (pv 2) pa_nil)))))
      (pss_one (ps_ret pe_bl))
      pss_nil)))
      (pss_one (ps_ret (pe_cmpR op_eq (pe_callB (lenTxE P w) (by rfl) b_len (by decide +kernel) (pa_cons (pe_setC (i := 3) (own := [("entry", 3)]) K P w rfl scIsLogWithin.nd (pv 0) (blkOk_by (N := ["value", "most", "known", "entry"]) (sc := defScope sIsLogWithin) (by decide +kernel)) (fun _ _ _ _ _ => pg_name (i := 3) scIsLogWithin.nd rfl (.inl rfl)) (fun _ _ _ _ _ => pe_ix (ixtE K) (pv 3) (pe_gc (v := .int 1) rfl g2) (fun _ _ => rfl))) pa_nil)) (pe_callB (lenE K) (by rfl) b_len (by decide +kernel) (pa_cons (pv 0) pa_nil)) (nomark _)))))), ?_⟩
  refine ⟨_, rfl, v, d, ex, rfl, hd, _, rfl, ?_⟩
  cases hs : isD "tuple" d with
  | false =>
    refine iteT ?_
    rw [← logDn_no hs]
    exact q H Kp.refl
  | true =>
    obtain ⟨ds, rfl⟩ := tup_of_isD hs
    obtain ⟨a, xs, rfl, na, ha, hxs⟩ := hd
    have hl := hxs.length
    have n2 := nice_tup hn
    have ld : ∀ b1 b2 b3 : Bool, decide (ds.length ≤ m) = b1 → ds.all entryD = b2 → decide ((ds.map idOfD).Nodup) = b3 → logDn m (.tuple ds) = (b1 && b2 && b3) := fun b1 b2 b3 z1 z2 z3 => by
      show (decide (ds.length ≤ m) && ds.all entryD && decide ((ds.map idOfD).Nodup)) = _
      rw [z1, z2, z3]
    refine iteF ⟨_, rfl, a, xs, rfl, .inr (.inl (.inl ha)), _, rfl, _, _, rfl, rfl, _, rfl, ?_⟩
    by_cases h60 : (xs.length : Int) > (m : Nat)
    · rw [decide_eq_true h60]
      refine iteT ?_
      have e := ld false _ _ (decide_eq_false (by omega)) rfl rfl
      rw [Bool.false_and, Bool.false_and] at e
      rw [← e]
      exact q H Kp.refl
    · rw [decide_eq_false h60]
      refine iteF fun kd nk => ?_
      have k0 : Kp [] H (upd H kd (.dK [])) := Kp.laid nk
      have kn0 : Known kd 0 (upd H kd (.dK [])) := ⟨[], upd_same, (fun z hz => by cases hz), Nat.le_refl _⟩
      have hx0 : RpAll (kd :: ex) (upd H kd (.dK [])) ds xs := RpAll.keep (k0.mono (by simp)) _ _ (RpAll.apart nk _ _ hxs)
      have back : ∀ {H' : Hp}, Kp [kd] (upd H kd (.dK [])) H' → Kp [] H H' := fun k => Kp.drop ((k0.mono (by simp)).trans k) nk
      generalize upd H kd (.dK []) = H0 at k0 kn0 hx0 back
      have akd : a ≠ kd := fun z => by rw [z, nk] at ha; cases ha
      have ha0 : H0 a = some (.tup xs) := k0 _ _ (by simp) ha
      have aT : ∀ {H' : Hp}, Kp [kd] H0 H' → SqT K H' a xs := fun k => .inl (.inl (k _ _ (by simpa using akd) ha0))
      refine ⟨_, rfl, a, rfl, ⟨_, .inl (.inl ha0)⟩, for_tup (K := K) (a := a) (xs := xs) (fun j σ H' => ∃ entry : Option V, σ = [some (.ref a), some (.int (m : Nat)), some (.ref kd), entry] ∧ Kp [kd] H0 H' ∧ Known kd (6 * j) H' ∧ ∀ d ∈ ds.take j, entryD d = true)
        ⟨none, rfl, Kp.refl, kn0, by simp⟩ ?_ ?_ ?_⟩
      · rintro j σ H' hj ⟨_, _, k, _⟩
        exact aT k
      · rintro j x σ H' hx ⟨entry, rfl, k, kj, all⟩
        have hj : j < xs.length := (List.getElem?_eq_some_iff.mp hx).1
        obtain ⟨e, he1, he2⟩ := RpAll.back hx0 hx
        have ke := Rp.keep (k.mono (by simp)) _ _ he2
        refine ⟨_, rfl, _, rfl, x, e, kd :: ex, kd, 6 * j, rfl, ke, n2 e (List.mem_of_getElem? he1), by simp, kj, by omega, fun H2 k2 kn2 => ⟨_, rfl, ?_⟩⟩
        cases hw : entryD e with
        | false =>
          refine iteT ?_
          have el := ld _ false _ rfl (by
            rw [← Bool.not_eq_true, List.all_eq_true]
            intro h
            rw [h e (List.mem_of_getElem? he1)] at hw
            cases hw) rfl
          rw [Bool.and_false, Bool.false_and] at el
          rw [← el]
          exact q H2 (back (k.trans k2))
        | true =>
          refine iteF ⟨_, rfl, k.trans k2, kn2.more (by omega), fun d hd => ?_⟩
          rw [List.take_add_one, he1] at hd
          rcases List.mem_append.mp hd with h | h
          · exact all d h
          · rw [show d = e by simpa using h]; exact hw
      · rintro σ H' ⟨entry, rfl, k, kj, all⟩
        rw [← hl, List.take_length] at all
        have hall : ds.all entryD = true := List.all_eq_true.mpr all
        have ids : ∀ j (hj : j < ds.length), (ds.map idOfD)[j]? = some (idOfD ds[j]) := fun j hj => by rw [List.getElem?_map, List.getElem?_eq_getElem hj]; rfl
        have hx1 : RpAll (kd :: ex) H' ds xs := RpAll.keep (k.mono (by simp)) _ _ hx0
        refine ⟨_, rfl, a, rfl, ⟨_, aT k⟩, a, xs, ds.map idOfD, rfl, aT k, by rw [List.length_map]; exact hl, by rw [List.length_map]; omega, fun j x z H2 Q2 hx hz k2 q2 => ?_, fun D n hn1 hn2 nD => ?_⟩
        · have hj : j < ds.length := by rw [hl]; exact (List.getElem?_eq_some_iff.mp hx).1
          obtain ⟨e, he1, he2⟩ := RpAll.back hx1 hx
          obtain ⟨kk, zz, r, rfl, _⟩ := entry_shape (all e (List.mem_of_getElem? he1))
          obtain ⟨b, ys, rfl, nb, hb, hys⟩ := Rp.keep (k2.mono (by simp)) _ _ he2
          have ez : zz = z := by
            rw [List.getElem?_map, he1] at hz
            exact Option.some.inj hz
          refine ⟨_, rfl, ixD (j := 1) rfl hb hys rfl fun vz rz => ?_⟩
          obtain rfl : vz = .str zz := rz
          rw [ez]
          exact q2
        · have kD : Kp [] H' (upd H' D (SetT P w D (fun j => decide (j ∈ ds.map idOfD)) n)) := Kp.laid nD
          refine ⟨D, _, n, rfl, upd_same, _, rfl, a, xs, rfl, .inr (aT (k.trans (kD.mono (by simp)))), rfl, ?_⟩
          have e : decide (V.int (n : Int) = V.int (xs.length : Int)) = logDn m (.tuple ds) := by
            rw [ld true true _ (decide_eq_true (by omega)) hall rfl, Bool.true_and, Bool.true_and, decide_eq_decide]
            rw [List.length_map] at hn2
            rw [← hn2, ← hl]
            exact ⟨fun z => by injection z with z; omega, fun z => by rw [z]⟩
          rw [e]
          exact q _ ((back k).trans kD)
theorem ok_plog (DIsLog : Fn K mg "is_log" sIsLog ["value"]) (DIsLogWithin : Fn K mg "is_log_within" sIsLogWithin ["value", "most"]) (g1 : ∃ u, mg "MOST_ENTRIES" = some u ∧ L2.RelV (.int 60) u)
    (GIsLogWithin : FnOk P w K mg base CX0 5 DIsLogWithin.f DIsLogWithin.fd ["value", "most"] spAskN) : FnOk P w K mg base CX0 6 DIsLog.f DIsLog.fd ["value"] (spAskD logD') := by
  refine DIsLog.F.ok scIsLog (fun vs H Q E h => ?_) (fun cdv A outer s H vs Q E hr h => ?_)
  · obtain ⟨v, d, ex, rfl, _⟩ := h
    rfl
  obtain ⟨v, d, ex, rfl, hd, hn, q⟩ := h
  refine ⟨_, pss_one (ps_ret (pe_fn DIsLogWithin GIsLogWithin hr (pa_cons (pv 0) (pa_cons (pe_gc (v := .int 60) rfl g1) pa_nil)))), ?_⟩
  exact ⟨_, rfl, v, d, 60, ex, rfl, by decide, hd, hn, fun H' k => by rw [logDn_60]; exact q H' k⟩
end
end NV
/-! EntIx -/
set_option Elab.async false
set_option linter.all false
set_option maxRecDepth 100000
set_option maxHeartbeats 600000
/-! an entry's items by their places, and small rules -/
namespace NV
open PySem PySem.Spec PyProof.Rows L2
open C8 (pss_cut pe_gc)
theorem Live.kp0 {ex : List Addr} {H H' : Hp} (l : Live ex H) (k : Kp [] H H') : Live ex H' := fun b hb e => by
  cases h : H b with
  | none => exact l b hb h
  | some u => rw [k b u (by simp) h] at e; cases e
/-- the places of an entry's items -/
theorem ent_writes {e : Ent} (h : e.isW = true) : ∃ ds, e.data = .tuple ds ∧ ds[3]? = some (.tuple (e.ws.map .str)) ∧ ds[4]? = some (prD e.pr) := by
  cases e with
  | wr id rs ws pr => exact ⟨_, rfl, rfl, rfl⟩
  | qu id cs => cases h
theorem ent_reads (e : Ent) : ∃ ds, e.data = .tuple ds ∧ ds[1]? = some (.str e.id) ∧ ds[2]? = some (.tuple (e.rs.map .str)) := by
  cases e with
  | wr id rs ws pr => exact ⟨_, rfl, rfl, rfl⟩
  | qu id cs => exact ⟨_, rfl, rfl, rfl⟩
theorem strs_of {ex : List Addr} {H : Hp} : ∀ {zs : List Str} {xs : List V}, RpAll ex H (zs.map PyData.str) xs → xs = zs.map V.str
  | [], _, h => h
  | z :: zs, _, h => by
    obtain ⟨v, ws, rfl, h1, h2⟩ := h
    obtain rfl : v = .str z := h1
    rw [strs_of h2]
    rfl
/-- an item of an entry, by its place -/
theorem ent_ix {K : PySem.W.Frag} {ex : List Addr} {H : Hp} {e : Ent} {v : V} {ds : List PyData} {d : PyData} {j : Nat} {i : Int} {Q : VK} (r : Rp ex H e.data v) (ed : e.data = .tuple ds) (hj : ds[j]? = some d) (ei : i = (j : Int)) (q : ∀ u, Rp ex H d u → Q u H) : rIxT K v (.int i) H Q := by
  rw [ed] at r
  obtain ⟨a, xs, rfl, _, ha, hx⟩ := r
  exact ixD ei ha hx hj q
theorem c_of {v : V} {σ : L2.St} {H : Hp} {Q : VK} (h : Q v H) : tC v σ H Q := h
theorem ent_kind (e : Ent) : ∃ ds, e.data = .tuple ds ∧ ds[0]? = some (.str (if e.isW then "write" else "query")) := by
  cases e with
  | wr id rs ws pr => exact ⟨_, rfl, rfl⟩
  | qu id cs => exact ⟨_, rfl, rfl⟩
theorem pg_tupE {X : Cx} (K : PySem.W.Frag) {es : List Expr} {k : Nat} {t : TGs} {n : Nat} {pos : Pos} (hc : X.calm = true) (h : PGs X es t) (hK : X.K = K := by rfl)
    (hn : (assignEach es X.env).length = n := by rfl) (hst : (assignEach es X.env).findIdx? (·.1) = none := by rfl) : PG X (.Tuple es k pos) (gTup K n t) := by
  rw [← hK]
  exact pg_tup hc h hn hst
/-- a statement that is never reached -/
theorem ps_dead {X : Cx} (st : Stmt) : PS X st (fun _ _ _ => False) := ⟨fun _ _ _ _ _ _ h => h.elim⟩
theorem yes_on {σ : L2.St} {H : Hp} {A B : Hp → Prop} (h : A H) : tYes σ H (fun b H3 => if b = true then A H3 else B H3) := by
  delta tYes
  dsimp only
  rw [if_pos rfl]
  exact h
theorem ok_cells_nd {l : Nat} {cs : List Str} (h : CellsOk l cs) : cs.Nodup := h.asc.nodup
theorem Ent.Ok.rs {e : Ent} (h : e.Ok) : e.rs.Nodup ∧ e.rs.length ≤ 3 := by
  cases e with
  | wr id rs ws pr => exact ⟨h.2.1.asc.nodup, h.2.1.hi⟩
  | qu id cs => exact ⟨h.2.asc.nodup, h.2.hi⟩
theorem Ent.Ok.ws {e : Ent} (h : e.Ok) : e.ws.Nodup ∧ e.ws.length ≤ 3 := by
  cases e with
  | wr id rs ws pr => exact ⟨h.2.2.1.asc.nodup, h.2.2.1.hi⟩
  | qu id cs => exact ⟨.nil, Nat.zero_le _⟩
theorem nodup_take {l : List Str} {j : Nat} {c : Str} (nd : l.Nodup) (h : l[j]? = some c) : c ∉ l.take j := fun z => by
  obtain ⟨i, hi, e⟩ := List.mem_iff_getElem.mp z
  rw [List.length_take] at hi
  rw [List.getElem_take] at e
  have hj := (List.getElem?_eq_some_iff.mp h)
  obtain ⟨hj, e2⟩ := hj
  have := (List.nodup_iff_pairwise_ne.mp nd)
  rw [List.pairwise_iff_getElem] at this
  exact this i j (by omega) hj (by omega) (by rw [e, e2])
/-- a comprehension by what holds at each turn -/
theorem lc_inv {J : It} {g : TG} {tt : TT} {te : TE} {vs : List Nat} {σ : L2.St} {C : Addr} {H1 : Hp} {Qd : Hp → Prop} (n : Nat) (Pv : Nat → Hp → Prop) (h0 : Pv 0 (upd H1 C (.lst []))) (hd : ∀ H, Pv n H → J.stop n H ∧ Qd H) (hgo : ∀ i H, i < n → Pv i H → J.go i H)
    (hs : ∀ i H x H', i < n → Pv i H → J.yld i H x H' → g x (wipe σ vs) H' fun σ2 H2 => wipe σ2 vs = wipe σ vs ∧ tt σ2 H2 fun b H3 => if b = true then te σ2 H3 fun y H4 => ∃ acc, H4 C = some (.lst acc) ∧ acc.length < sizeLine ∧ Pv (i + 1) (upd H4 C (.lst (acc ++ [y]))) else Pv (i + 1) H3) :
    ∃ W : Nat → Nat → Hp → Prop, (∃ m, W 0 m (upd H1 C (.lst []))) ∧ ∀ i m H, W i m H →
      (J.stop i H ∧ Qd H) ∨ (J.go i H ∧ ∃ Nx : Hp → Prop, (∀ H', Nx H' → ∃ m', m' < m ∧ W (i + 1) m' H') ∧ ∀ x H', J.yld i H x H' → g x (wipe σ vs) H' fun σ2 H2 => wipe σ2 vs = wipe σ vs ∧ tt σ2 H2 fun b H3 =>
        if b = true then te σ2 H3 fun y H4 => ∃ acc, H4 C = some (.lst acc) ∧ acc.length < sizeLine ∧ Nx (upd H4 C (.lst (acc ++ [y]))) else Nx H3) := by
  refine ⟨fun i m H => m = n - i ∧ i ≤ n ∧ Pv i H, ⟨n, by simp, Nat.zero_le _, h0⟩, ?_⟩
  rintro i m H ⟨rfl, hi, p⟩
  rcases Nat.lt_or_ge i n with lt | ge
  · exact .inr ⟨hgo i H lt p, Pv (i + 1), fun H' q => ⟨n - (i + 1), by omega, rfl, lt, q⟩, fun x H' y => hs i H x H' lt p y⟩
  · obtain rfl : i = n := by omega
    exact .inl (hd H p)
end NV
/-! CkL -/
set_option Elab.async false
set_option linter.all false
set_option maxRecDepth 100000
set_option maxHeartbeats 1000000
/-! the package's check_log -/
namespace NV
open PySem PySem.Spec PyProof.Rows L2
open C8 (pss_cut pe_gc)
abbrev sCheckLog : Stmt := topS 32
theorem scCheckLog : FnScope ["log"] ["log"] (defScope sCheckLog) := ⟨rfl, rfl, rfl, by decide +kernel, rfl, by decide +kernel, by decide +kernel⟩
def spCheck : Sp := fun vs H Q _ => ∃ (v : V) (es : List Ent) (ex : List Addr), vs = [v] ∧ Rp ex H (logD es) v ∧ LogOk es ∧ es.length ≤ 60 ∧ ∀ H', Kp [] H H' → Q .non H'
section
variable {P : Program} {w : World} {K : PySem.W.Frag} {mg : Str → Option Value} {base : Heap}
theorem ok_checklog (DCheckLog : Fn K mg "check_log" sCheckLog ["log"]) (DIsLog : Fn K mg "is_log" sIsLog ["value"]) (GIsLog : FnOk P w K mg base CX0 6 DIsLog.f DIsLog.fd ["value"] (spAskD logD')) : FnOk P w K mg base CX0 7 DCheckLog.f DCheckLog.fd ["log"] spCheck := by
  refine DCheckLog.F.ok scCheckLog (fun vs H Q E h => ?_) (fun cdv A outer s H vs Q E hr h => ?_)
  · obtain ⟨v, es, ex, rfl, _⟩ := h
    rfl
  obtain ⟨v, es, ex, rfl, rv, ok, h60, q⟩ := h
  refine ⟨_, pss_one (ps_if (pt_not (pt_val (pe_fn DIsLog GIsLog hr (pa_cons (pv 0) pa_nil))))
      (pss_one (ps_dead _))
      pss_nil), ?_⟩
  obtain ⟨n1, _, _⟩ := log_nice ok.ok
  refine ⟨_, rfl, v, logD es, ex, rfl, rv, n1, fun H' k => ⟨_, rfl, ?_⟩⟩
  have e : logD' (logD es) = true := by
    show logD' (.tuple (es.map Ent.data)) = true
    rw [log_data ok.ok, decide_eq_true h60, decide_eq_true ok.nd]
    rfl
  rw [e]
  exact iteF (q H' k)
end
end NV
/-! EnumT -/
set_option Elab.async false
set_option linter.all false
set_option maxRecDepth 100000
set_option maxHeartbeats 600000
/-! enumerate of a tuple -/
namespace NV
open PySem PySem.Spec PyProof.Rows
open L2
def ItnM (K : PySem.W.Frag) (a : Addr) : It where
  go := fun i H => ∃ xs, SqT K H a xs ∧ i < xs.length
  yld := fun i H v H' => ∃ T x, H T = none ∧ v = .ref T ∧ H' = upd H T (.tup [.int (i : Nat), x]) ∧ ∀ xs, SqT K H a xs → xs[i]? = some x
  stop := fun i H => ∃ xs, SqT K H a xs ∧ xs.length = i
/-- the two cells of such an enumerate after i turns -/
structure EM (a e it : Addr) (i : Nat) (h : Heap) : Prop where
  num : ∃ old, IsEnum h e it (i : Nat) old
  src : h.IsTupleIter it a i
  ne : e ≠ it
section
variable {a e it : Addr} {i : Nat} {h h' : Heap}
theorem EM.cell (m : EM a e it i h) {c : Addr} (hc : c ∈ [e, it]) : ∃ o, h.get? c = some o ∧ ∀ v, o.data ≠ .cell v := by
  obtain ⟨old, hn⟩ := m.num
  obtain ⟨f, hf, _, df⟩ := m.src
  simp only [List.mem_cons, List.not_mem_nil, or_false] at hc
  rcases hc with z | z <;> subst z
  · exact ⟨_, hn, nofun⟩
  · exact ⟨f, hf, fun v y => nomatch df.symm.trans y⟩
theorem EM.frame (m : EM a e it i h) (k : ∀ c ∈ [e, it], ∀ o, h.get? c = some o → h'.get? c = some o) : EM a e it i h' where
  num := m.num.imp fun old hn => k e (by simp) _ hn
  src := m.src.at (k it (by simp))
  ne := m.ne
theorem EM.apart (m : EM a e it i h) {u : Array Value} (ht : h.IsTuple a u) : a ≠ it ∧ e ∉ [it, a] := by
  obtain ⟨old, hn⟩ := m.num
  obtain ⟨f, hf, _, df⟩ := m.src
  obtain ⟨t, h1, _, _, d1⟩ := ht
  refine ⟨?_, fun hm => ?_⟩
  · rintro rfl
    obtain rfl : f = t := Option.some.inj (hf.symm.trans h1)
    exact nomatch df.symm.trans d1
  · simp only [List.mem_cons, List.not_mem_nil, or_false] at hm
    rcases hm with z | z
    · exact m.ne z
    · subst z
      have := Option.some.inj (hn.symm.trans h1)
      rw [← this] at d1
      cases d1
end
section
variable {P : Program} {w : World} {K : PySem.W.Frag} {elts : List Expr} {kk : Nat} {tpos : Pos} {a e it : Addr}
theorem turn_enumT : Turn P w K (.Tuple elts kk tpos) (ItnM K a) [e, it] e (EM a e it) := by
  constructor
  · exact List.mem_cons_self
  · exact fun i h m c hc => m.cell hc
  · exact fun i h h' m k => m.frame k
  · rintro X rfl rfl rfl calm i pins s σ H E I free m ⟨xs, tup, l1⟩
    obtain ⟨us, ru, t1, _⟩ := I.tuple tup
    obtain ⟨x, hx⟩ : ∃ x, xs[i]? = some x := ⟨_, List.getElem?_eq_getElem l1⟩
    obtain ⟨u, hu, rxu⟩ := ru.get hx
    obtain ⟨n1, n2⟩ := m.apart t1
    obtain ⟨old, hn⟩ := m.num
    have still : X.A.in1.handled = none := I.ok.hd calm
    refine wpAny_pyNext_enum_itemD (.tuple still it a n1 us.toArray) hn ⟨m.src, t1⟩ ?_ m.ne n2 fun u' h1 tk eu out st pair _ hk => ?_
    · have := ru.length
      simp
      omega
    have eu : us.toArray[i]? = some u' := eu
    rw [List.getElem?_toArray, hu] at eu
    obtain rfl := Option.some.inj eu
    refine ⟨_, rfl, wpAny_letOwnedTupleGo_enum (s := { s with heap := h1, toks := tk + 1 }) out fun h2 e2 same => ?_⟩
    have lt : ∀ c ∈ [e, it], c < s.heap.objs.size := fun c hc => by
      obtain ⟨o, ho, _⟩ := m.cell hc
      exact Heap.lt_size ho
    have enew : s.heap.objs.size ≠ e := (Nat.ne_of_lt (lt e List.mem_cons_self)).symm
    have rest : ∀ c o, c ∉ [e, it] → s.heap.get? c = some o → h2.get? c = some o := fun c o hc y => by
      simp only [List.mem_cons, List.not_mem_nil, or_false, not_or] at hc
      exact (same.2 c hc.1).trans (hk c o hc.1 hc.2 y)
    have I2 := I.turnedNew (t' := tk + 1) (h' := h2) (ob := .tup [.int (i : Nat), x]) rest free (Nat.le_refl s.heap.objs.size)
      ⟨by show 2 ≤ sizeLine; decide, [.int (i : Nat) tk, u], .cons ⟨tk, rfl⟩ (.cons rxu .nil), ⟨_, (same.2 _ enew).trans pair, rfl, _, rfl⟩⟩
    refine ⟨.ref s.heap.objs.size, _, I2, rfl, ⟨s.heap.objs.size, x, I.hok.fresh (Nat.le_refl _), rfl, rfl, fun xs' hx' => ?_⟩, ?_, fun c hc => ?_⟩
    · rw [I.tuple_inj hx' tup]
      exact hx
    · exact { num := ⟨u, e2⟩
              src := st.1.at fun o y => (same.2 it m.ne.symm).trans y
              ne := m.ne }
    · rw [upd_ne (Nat.ne_of_lt (lt c hc))]
      exact (free c hc).1
  · rintro X rfl rfl rfl calm i pins s σ H E I free m ⟨xs, tup, l1⟩
    obtain ⟨us, ru, t1, _⟩ := I.tuple tup
    obtain ⟨n1, n2⟩ := m.apart t1
    obtain ⟨old, hn⟩ := m.num
    have still : X.A.in1.handled = none := I.ok.hd calm
    have e1 : i = us.toArray.size := by
      have := ru.length
      simp
      omega
    refine wpAny_pyNext_enum_endD (.tuple still it a n1 us.toArray) hn (by rw [← e1]; exact ⟨m.src, t1⟩) fun h1 ext => ⟨rfl, I.turnedL (t' := s.toks) (fun c o hc y => ext c o (fun z => hc (by rw [z]; simp)) y) free⟩
  · exact fun A i s Q E m q => by
      obtain ⟨old, hn⟩ := m.num
      exact wpAny_pyIter_enum hn q
end
/-- enumerate(v), v of any kind that begins -/
theorem meets_enum1 {v : Value} {o : Obj} {W : Heap → Prop} (B : Begins v o W) :
    Meets (Builtin.«enumerate.__new__» ⟨[.type "enumerate", v], []⟩) (fun _ R s => W s.heap ∧ R (.ok (.ret (.ref (s.heap.push o).objs.size))) { s with heap := (s.heap.push o).push { cls := .type "enumerate", data := .fields #[.none, .bool false, .ref s.heap.objs.size, rawInt 0, .none, .none] } }) :=
  .of_wp fun prog w A R s h => by
    obtain ⟨hp, g, d, tk, os⟩ := s
    obtain ⟨h1, h⟩ := h
    have hsub := sub_enumerate
    have begin_ : ∀ {A' : Around} {E : Value → Shared → Prop} {Q : Value → Shared → Prop}, Q (.ref hp.objs.size) ⟨hp.push o, g, d, tk, os⟩ → wpAny (model prog w) A' (pyIter v) Q E ⟨hp, g, d, tk, os⟩ := fun q => B.iter prog w _ _ _ _ h1 q
    wp_walk using begin_
    refine wpAny_stack_any fun st => wpAny_pure ?_
    split
    · rename_i c _ _ _ _ _
      cases (c == Value.type "enumerate") <;> (wp_walk using begin_; exact ⟨_, rfl, h⟩)
    · wp_walk using begin_
      exact ⟨_, rfl, h⟩
section
variable {prog : Program} {w : World} {A : Around} {E : Value → Shared → Prop} {s : Shared}
theorem enum_begins1 {v : Value} {o : Obj} {W : Heap → Prop} {Q : Value → Shared → Prop} (B : Begins v o W) (h1 : W s.heap)
    (h : ∀ h', IsEnum h' (s.heap.objs.size + 1) s.heap.objs.size 0 .none → h'.get? s.heap.objs.size = some o → (∀ b y, s.heap.get? b = some y → h'.get? b = some y) → Q (.ref (s.heap.objs.size + 1)) { s with heap := h' }) :
    wpAny (model prog w) A (call (.type "enumerate") [v]) Q E s := by
  refine callType_new F.called_enumerate (by decide) (F.typeCall_enumerate_1 _) (F.newCall_enumerate_1 _) (fun obj => F.args_object_init_2 obj _) F.entry_enumerate_new (meets_enum1 B) ⟨h1, ?_⟩
  have size : (s.heap.push o).objs.size = s.heap.objs.size + 1 := Heap.size_push ..
  have made := Heap.get?_push_size (s.heap.push o) (o := { cls := .type "enumerate", data := .fields #[.none, .bool false, .ref s.heap.objs.size, rawInt 0, .none, .none] }) rfl
  rw [size] at made
  show _ ∧ _
  rw [size]
  exact ⟨⟨_, made, rfl⟩, h _ made (Heap.get?_push_of_some _ (Heap.get?_push_size _ B.free)) fun b y e => Heap.get?_push_of_some _ (Heap.get?_push_of_some _ e)⟩
end
def iEnumT (K : PySem.W.Frag) (ta : TA) : TI := fun σ H R => ta σ H fun vs H1 => ∃ a xs, vs = [.ref a] ∧ SqT K H1 a xs ∧ R (ItnM K a) H1
theorem pi_enumT {X : Cx} {e : Expr} {ta : TA} {p pos tpos : Pos} {elts : List Expr} {kk : Nat} (K : PySem.W.Frag) (hg : Gl X "enumerate") (hm : X.mg "enumerate" = none) (ha : PA X [e] ta) (hK : X.K = K := by rfl)
    (h1 : starEach [e] X.env = (false, eval e X.env) :: starEach [] X.env := by rfl) (h2 : (backTo pos (starEach [] X.env)).any (·.1) = false := by rfl) :
    PI X (.Tuple elts kk tpos) (.Call (.Name "enumerate" p) [e] [] pos) (iEnumT K ta) := by
  subst hK
  constructor
  intro pins s σ H R I h
  refine Call_ (ld_blt I hg hm boot_enumerate (callWith_type1 (thn (ha.run pos pins s σ H _ I h) ?_) h1 h2))
  rintro us s1 ⟨_, H1, J, rel, a, xs, rfl, tup, q⟩
  cases rel with
  | cons ra rest =>
    cases rest
    cases ra
    obtain ⟨us, _, t1, _⟩ := J.tuple tup
    refine enum_begins1 (begins_tuple a us.toArray) t1 fun h' hn f hk => wpAny_pyIter_enum hn ?_
    refine ⟨s1.heap.objs.size + 1, _, _, _, H1, rfl, J.kept (t' := s1.toks) hk, turn_enumT, ⟨⟨_, hn⟩, ⟨_, f, rfl, rfl⟩, fun z => Nat.succ_ne_self _ z⟩, fun c hc => ?_, q⟩
    have le : (s1.heap.objs.size : Nat) ≤ (c : Nat) := by
      simp only [List.mem_cons, List.not_mem_nil, or_false] at hc
      rcases hc with z | z <;> rw [z]
      · exact Nat.le_add_right _ _
      · exact Nat.le_refl _
    exact J.fpOk le (J.hok.fresh le)
theorem for_enumT {K : PySem.W.Frag} {a : Addr} {xs : List V} {g : TG} {tb : TS} {D : Ends} {σ : L2.St} {H : Hp} (Pv : Nat → L2.St → Hp → Prop) (h0 : Pv 0 σ H) (hq : ∀ i σ H, Pv i σ H → SqT K H a xs)
    (turn : ∀ (i : Nat) (x : V) (T : Addr) (σ : L2.St) (H : Hp), xs[i]? = some x → Pv i σ H → H T = none → g (.ref T) σ (upd H T (.tup [.int (i : Nat), x])) fun σ2 H2 => tb { D with nx := Pv (i + 1), ct := Pv (i + 1), bk := D.nx } σ2 H2) (last : ∀ σ H, Pv xs.length σ H → D.nx σ H) :
    ∃ W : Nat → Nat → L2.St → Hp → Prop, (∃ m, W 0 m σ H) ∧ ∀ i m σ H, W i m σ H → ((ItnM K a).stop i H ∧ D.nx σ H) ∨
      ((ItnM K a).go i H ∧ ∃ N : L2.St → Hp → Prop, (∀ σ' H', N σ' H' → ∃ m', m' < m ∧ W (i + 1) m' σ' H') ∧ ∀ v H', (ItnM K a).yld i H v H' → g v σ H' fun σ2 H2 => tb { D with nx := N, ct := N, bk := D.nx } σ2 H2) := by
  refine ⟨fun i m σ H => m + i = xs.length ∧ Pv i σ H, ⟨xs.length, rfl, h0⟩, ?_⟩
  rintro i m σ H ⟨hm, hP⟩
  have tup := hq i σ H hP
  cases m with
  | zero =>
    obtain rfl : i = xs.length := by omega
    exact .inl ⟨⟨xs, tup, rfl⟩, last σ H hP⟩
  | succ m =>
    refine .inr ⟨⟨xs, tup, by omega⟩, Pv (i + 1), fun σ' H' hP' => ⟨m, by omega, by omega, hP'⟩, ?_⟩
    rintro v H' ⟨T, x, hT, rfl, rfl, at_⟩
    exact turn i x T σ H (at_ xs tup) hP hT
theorem pi_enumE {X : Cx} (K : PySem.W.Frag) {e : Expr} {ta : TA} {p pos tpos : Pos} {elts : List Expr} {kk : Nat} (hg : Gl X "enumerate") (hm : X.mg "enumerate" = none) (ha : PA X [e] ta) (hK : X.K = K := by rfl) (hs : starEach [e] X.env = [(false, eval e X.env)] := by rfl) :
    PI X (.Tuple elts kk tpos) (.Call (.Name "enumerate" p) [e] [] pos) (iEnum K ta) := by
  rw [← hK]
  exact pi_enum hg hm ha hs
end NV
/-! V1a -/
set_option Elab.async false
set_option linter.all false
set_option maxRecDepth 100000
set_option maxHeartbeats 1000000
/-! the package's cells_written, is_write_at, is_read_at, position_in, asked of what is there -/
namespace NV
open PySem PySem.Spec PyProof.Rows L2
open C8 (pss_cut pe_gc)
abbrev sCellsWritten : Stmt := topS 29
theorem scCellsWritten : FnScope ["entry"] ["entry"] (defScope sCellsWritten) := ⟨rfl, rfl, rfl, by decide +kernel, rfl, by decide +kernel, by decide +kernel⟩
abbrev sIsWriteAt : Stmt := topS 30
theorem scIsWriteAt : FnScope ["log", "position"] ["log", "position"] (defScope sIsWriteAt) := ⟨rfl, rfl, rfl, by decide +kernel, rfl, by decide +kernel, by decide +kernel⟩
abbrev sIsReadAt : Stmt := topS 31
theorem scIsReadAt : FnScope ["log", "position", "cell"] ["log", "position", "cell"] (defScope sIsReadAt) := ⟨rfl, rfl, rfl, by decide +kernel, rfl, by decide +kernel, by decide +kernel⟩
abbrev sPositionIn : Stmt := topS 34
theorem scPositionIn : FnScope ["log", "entry_id", "position", "entry"] ["log", "entry_id"] (defScope sPositionIn) := ⟨rfl, rfl, rfl, by decide +kernel, rfl, by decide +kernel, by decide +kernel⟩
theorem kind_w (b : Bool) : decide (V.str (if b = true then ("write" : Str) else "query") = V.str "write") = b := by
  cases b with
  | true => exact decide_eq_true rfl
  | false => exact decide_eq_false (by intro h; exact absurd (V.str.inj h) (by decide))
theorem in_names {K : PySem.W.Frag} {H : Hp} {a : Addr} {zs : List Str} {c : Str} {Q : VK} (ha : H a = some (.tup (zs.map V.str))) (q : Q (.bl (decide (c ∈ zs))) H) : rIn K false (.str c) (.ref a) H Q := by
  refine ⟨a, _, rfl, .inr (.inl (.inl ha)), rfl, ?_, ?_⟩
  · rw [List.all_map]
    exact List.all_eq_true.mpr fun x _ => rfl
  · have e : inV (.str c) (zs.map V.str) = decide (c ∈ zs) := by
      unfold inV
      rw [List.any_map, Bool.eq_iff_iff, List.any_eq_true, decide_eq_true_iff]
      constructor
      · rintro ⟨y, hy, h⟩
        have h : (y == c) = true := h
        rw [← eq_of_beq h]
        exact hy
      · intro h
        exact ⟨c, h, by show (c == c) = true; exact beq_self_eq_true c⟩
    rw [if_neg Bool.false_ne_true, e]
    exact q
/-- the write at k, where there is one -/
def writeAt (es : List Ent) (k : Nat) : Bool := match es[k]? with
  | some e => e.isW
  | none => false
def spCellsW : Sp := fun vs H Q _ => ∃ (v : V) (e : Ent) (ex : List Addr), vs = [v] ∧ Rp ex H e.data v ∧ ∀ p H', Kp [] H H' → H' p = some (.tup (e.ws.map V.str)) → Q (.ref p) H'
def spWriteAt : Sp := fun vs H Q _ => ∃ (v : V) (es : List Ent) (ex : List Addr) (k : Nat), vs = [v, .int (k : Nat)] ∧ Rp ex H (logD es) v ∧ Q (.bl (writeAt es k)) H
/-- a cell is read there: at the end any cell -/
def spReadAt : Sp := fun vs H Q _ => ∃ (v : V) (es : List Ent) (ex : List Addr) (k : Nat) (c : Str), vs = [v, .int (k : Nat), .str c] ∧ Rp ex H (logD es) v ∧ k ≤ es.length ∧ cellB c = true ∧ (∀ e, es[k]? = some e → c ∈ e.rs) ∧ Q (.bl true) H
/-- the position of this name, the end for none -/
def PosOf (es : List Ent) (z : Str) (k : Nat) : Prop := (z = "" ∧ k = es.length) ∨ (z ≠ "" ∧ (∃ e, es[k]? = some e ∧ e.id = z) ∧ ∀ j e, j < k → es[j]? = some e → e.id ≠ z)
def spPos : Sp := fun vs H Q _ => ∃ (v : V) (es : List Ent) (ex : List Addr) (z : Str) (k : Nat), vs = [v, .str z] ∧ Rp ex H (logD es) v ∧ PosOf es z k ∧ ∀ H', Kp [] H H' → Q (.int (k : Nat)) H'
section
variable {P : Program} {w : World} {K : PySem.W.Frag} {mg : Str → Option Value} {base : Heap}
theorem ok_cellsw (DCellsWritten : Fn K mg "cells_written" sCellsWritten ["entry"]) (g0 : ∃ u, mg "KIND" = some u ∧ L2.RelV (.int 0) u) (g3 : ∃ u, mg "WRITES" = some u ∧ L2.RelV (.int 3) u) : FnOk P w K mg base CX0 1 DCellsWritten.f DCellsWritten.fd ["entry"] spCellsW := by
  refine DCellsWritten.F.ok scCellsWritten (fun vs H Q E h => ?_) (fun cdv A outer s H vs Q E hr h => ?_)
  · obtain ⟨v, e, ex, rfl, _⟩ := h
    rfl
  obtain ⟨v, e, ex, rfl, rv, q⟩ := h
  refine ⟨_, pss_one (ps_ret (pe_ifExp (pt_cmpR op_eq (pe_ix (ixtE K) (pv 0) (pe_gc (v := .int 0) rfl g0) (fun _ _ => rfl)) pe_str (nomark _)) (pe_ix (ixtE K) (pv 0) (pe_gc (v := .int 3) rfl g3) (fun _ _ => rfl)) (pe_tup pa_nil))), ?_⟩
  obtain ⟨d0, ed0, hd0⟩ := ent_kind e
  refine ⟨_, rfl, c_of (ent_ix rv ed0 hd0 rfl fun vk rk => ?_)⟩
  obtain rfl : vk = .str (if e.isW then "write" else "query") := rk
  refine ⟨rfl, _, rfl, ?_⟩
  rw [kind_w]
  cases hw : e.isW with
  | true =>
    obtain ⟨d3, ed3, hd3, _⟩ := ent_writes hw
    refine iteT ⟨_, rfl, c_of (ent_ix rv ed3 hd3 rfl fun u ru => ?_)⟩
    obtain ⟨a, cs, rfl, na, ha, hcs⟩ := ru
    obtain rfl := strs_of hcs
    exact q a H Kp.refl ha
  | false =>
    refine iteF ⟨Nat.zero_le _, fun p np => q p _ (Kp.laid np) ?_⟩
    rw [upd_same]
    cases e with
    | wr _ _ _ _ => cases hw
    | qu _ _ => rfl
theorem ok_writeat (DIsWriteAt : Fn K mg "is_write_at" sIsWriteAt ["log", "position"]) (b_len : mg "len" = none) (g0 : ∃ u, mg "KIND" = some u ∧ L2.RelV (.int 0) u) : FnOk P w K mg base CX0 1 DIsWriteAt.f DIsWriteAt.fd ["log", "position"] spWriteAt := by
  refine DIsWriteAt.F.ok scIsWriteAt (fun vs H Q E h => ?_) (fun cdv A outer s H vs Q E hr h => ?_)
  · obtain ⟨v, es, ex, k, rfl, _⟩ := h
    rfl
  obtain ⟨v, es, ex, k, rfl, rv, q⟩ := h
  refine ⟨_, pss_one (ps_ret (pe_and (pe_cmpR op_lt (pv 1) (pe_callB (lenE K) (by rfl) b_len (by decide +kernel) (pa_cons (pv 0) pa_nil)) (nomark _)) (pe_one (pe_cmpR op_eq (pe_ix (ixtE K) (pe_ix (ixtE K) (pv 0) (pv 1) (fun _ _ => rfl)) (pe_gc (v := .int 0) rfl g0) (fun _ _ => rfl)) pe_str (nomark _))))), ?_⟩
  obtain ⟨a, xs, rfl, na, ha, hx⟩ := rv
  have hl : es.length = xs.length := by
    have := hx.length
    rwa [List.length_map] at this
  refine ⟨_, rfl, _, rfl, a, xs, rfl, .inr (.inl (.inl ha)), _, _, rfl, rfl, _, rfl, ?_⟩
  rcases Nat.lt_or_ge k es.length with hk | hk
  · rw [decide_eq_true (show ((k : Nat) : Int) < (xs.length : Nat) by omega)]
    obtain ⟨e, he⟩ : ∃ e, es[k]? = some e := ⟨_, List.getElem?_eq_getElem hk⟩
    obtain ⟨d0, ed0, hd0⟩ := ent_kind e
    refine iteT ⟨_, rfl, _, rfl, ixD (j := k) rfl ha hx (by rw [List.getElem?_map, he]; rfl) fun ve re => c_of (ent_ix re ed0 hd0 rfl fun vk rk => ?_)⟩
    obtain rfl : vk = .str (if e.isW then "write" else "query") := rk
    refine ⟨rfl, ?_⟩
    rw [kind_w]
    have : writeAt es k = e.isW := by unfold writeAt; rw [he]
    rw [← this]
    exact q
  · rw [decide_eq_false (show ¬ ((k : Nat) : Int) < (xs.length : Nat) by omega)]
    have : writeAt es k = false := by unfold writeAt; rw [List.getElem?_eq_none hk]
    rw [this] at q
    exact iteF q
theorem ok_readat (DIsReadAt : Fn K mg "is_read_at" sIsReadAt ["log", "position", "cell"]) (DIsCell : Fn K mg "is_cell" sIsCell ["value"]) (b_len : mg "len" = none) (g2 : ∃ u, mg "READS" = some u ∧ L2.RelV (.int 2) u)
    (GIsCell : FnOk P w K mg base CX0 2 DIsCell.f DIsCell.fd ["value"] (spIs (wordD 4 false))) : FnOk P w K mg base CX0 3 DIsReadAt.f DIsReadAt.fd ["log", "position", "cell"] spReadAt := by
  refine DIsReadAt.F.ok scIsReadAt (fun vs H Q E h => ?_) (fun cdv A outer s H vs Q E hr h => ?_)
  · obtain ⟨v, es, ex, k, c, rfl, _⟩ := h
    rfl
  obtain ⟨v, es, ex, k, c, rfl, rv, hk, hc, hrs, q⟩ := h
  refine ⟨_, pss_one (ps_ret (pe_ifExp (pt_cmpR op_eq (pv 1) (pe_callB (lenE K) (by rfl) b_len (by decide +kernel) (pa_cons (pv 0) pa_nil)) (nomark _)) (pe_fn DIsCell GIsCell hr (pa_cons (pv 2) pa_nil))
      (pe_cmpR (inE K) (pv 2) (pe_ix (ixtE K) (pe_ix (ixtE K) (pv 0) (pv 1) (fun _ _ => rfl)) (pe_gc (v := .int 2) rfl g2) (fun _ _ => rfl)) (by rfl)))), ?_⟩
  obtain ⟨a, xs, rfl, na, ha, hx⟩ := rv
  have hl : es.length = xs.length := by
    have := hx.length
    rwa [List.length_map] at this
  refine ⟨_, rfl, _, rfl, a, xs, rfl, .inr (.inl (.inl ha)), rfl, _, rfl, ?_⟩
  by_cases he : k = es.length
  · rw [decide_eq_true (show V.int (k : Nat) = V.int (xs.length : Nat) by rw [he, hl])]
    obtain ⟨h1, h2⟩ := word_len hc
    refine iteT ⟨_, rfl, .str c, .str c, ex, rfl, rfl, ?_, ?_⟩
    · simp only [niceD, Bool.and_eq_true, decide_eq_true_eq]
      exact ⟨by omega, h2⟩
    · show Q (.bl (cellB c)) H
      rw [hc]
      exact q
  · rw [decide_eq_false (show ¬ V.int (k : Nat) = V.int (xs.length : Nat) from fun h => by have := V.int.inj h; omega)]
    obtain ⟨e, hek⟩ : ∃ e, es[k]? = some e := ⟨_, List.getElem?_eq_getElem (by omega)⟩
    obtain ⟨d2, ed2, _, hd2⟩ := ent_reads e
    refine iteF ⟨_, rfl, _, rfl, _, rfl, ixD (j := k) rfl ha hx (by rw [List.getElem?_map, hek]; rfl) fun ve re => c_of (ent_ix re ed2 hd2 rfl fun u ru => ?_)⟩
    obtain ⟨ra, cs, rfl, nra, hra, hcs⟩ := ru
    obtain rfl := strs_of hcs
    refine in_names hra ?_
    rw [decide_eq_true (hrs e hek)]
    exact q
theorem ok_pos (DPositionIn : Fn K mg "position_in" sPositionIn ["log", "entry_id"]) (b_len : mg "len" = none) (b_enumerate : mg "enumerate" = none) (gE : ∃ u, mg "END" = some u ∧ L2.RelV (.str "") u) (g1 : ∃ u, mg "ID" = some u ∧ L2.RelV (.int 1) u) :
    FnOk P w K mg base CX0 1 DPositionIn.f DPositionIn.fd ["log", "entry_id"] spPos := by
  refine DPositionIn.F.ok scPositionIn (fun vs H Q E h => ?_) (fun cdv A outer s H vs Q E hr h => ?_)
  · obtain ⟨v, es, ex, z, k, rfl, _⟩ := h
    rfl
  obtain ⟨v, es, ex, z, k, rfl, rv, pos, q⟩ := h
  refine ⟨_, pss_cons (ps_if (pt_cmpR op_eq (pv 1) (pe_gc (v := .str "") rfl gE) (nomark _))
      (pss_one (ps_ret (pe_callB (lenE K) (by rfl) b_len (by decide +kernel) (pa_cons (pv 0) pa_nil))))
      pss_nil)
      (pss_cons (ps_for PassesOwn.never rfl (pi_enumT K (by rfl) b_enumerate (pa_cons (pv 0) pa_nil)) (pg_tupE K (by rfl) (pgs_cons (pg_name (i := 2) scPositionIn.nd rfl (.inl rfl)) (pgs_cons (pg_name (i := 3) scPositionIn.nd rfl (.inl rfl)) pgs_nil)))
      (pss_one (ps_if (pt_cmpR op_eq (pe_ix (ixtE K) (pv 3) (pe_gc (v := .int 1) rfl g1) (fun _ _ => rfl)) (pv 1) (nomark _))
      (pss_one (ps_ret (pv 2)))
      pss_nil)))
      (pss_one (ps_dead _))), ?_⟩
  obtain ⟨a, xs, rfl, na, ha, hx⟩ := rv
  have hl : es.length = xs.length := by
    have := hx.length
    rwa [List.length_map] at this
  refine ⟨_, rfl, rfl, _, rfl, ?_⟩
  rcases pos with ⟨rfl, rfl⟩ | ⟨hz, ⟨e, he, hid⟩, first⟩
  · refine iteT ⟨_, rfl, a, xs, rfl, .inr (.inl (.inl ha)), ?_⟩
    rw [← hl]
    exact q H Kp.refl
  · rw [decide_eq_false (show ¬ V.str z = V.str "" from fun h => hz (V.str.inj h))]
    have hk := (List.getElem?_eq_some_iff.mp he).1
    refine iteF ⟨_, rfl, a, xs, rfl, .inl (.inl ha), for_enumT (K := K) (a := a) (xs := xs) (fun i σ H' => ∃ c2 c3 : Option V, σ = [some (.ref a), some (.str z), c2, c3] ∧ Kp [] H H' ∧ i ≤ k) ⟨none, none, rfl, Kp.refl, Nat.zero_le _⟩ ?_ ?_ ?_⟩
    · rintro i σ H' ⟨_, _, _, k', _⟩
      exact .inl (.inl (k' _ _ (by simp) ha))
    · rintro i x T σ H1 hxi ⟨c2, c3, rfl, k1, hik⟩ nT
      have kT : Kp [] H1 (upd H1 T (.tup [.int (i : Nat), x])) := Kp.laid nT
      have hT : (upd H1 T (.tup [.int (i : Nat), x])) T = some (.tup [.int (i : Nat), x]) := upd_same
      obtain ⟨e', he'⟩ : ∃ e', es[i]? = some e' := ⟨_, List.getElem?_eq_getElem (by omega)⟩
      obtain ⟨x', hx', rx⟩ := RpAll.at hx (show (es.map Ent.data)[i]? = some e'.data by rw [List.getElem?_map, he']; rfl)
      rw [hxi] at hx'
      obtain rfl := Option.some.inj hx'
      have k2 := k1.trans kT
      have rx2 := Rp.keep (k2.mono (ex' := ex) (by simp)) _ _ rx
      obtain ⟨d1, ed1, hd1, _⟩ := ent_reads e'
      refine ⟨T, _, rfl, .inl (.inl hT), rfl, _, _, rfl, _, _, rfl, rfl, ?_⟩
      refine ⟨_, rfl, c_of (ent_ix rx2 ed1 hd1 rfl fun vi ri => ?_)⟩
      obtain rfl : vi = .str e'.id := ri
      refine ⟨_, rfl, rfl, _, rfl, ?_⟩
      by_cases hi : i = k
      · subst hi
        rw [he] at he'
        obtain rfl := Option.some.inj he'
        rw [decide_eq_true (show V.str e.id = V.str z by rw [hid])]
        exact iteT ⟨_, rfl, q _ k2⟩
      · rw [decide_eq_false (show ¬ V.str e'.id = V.str z from fun h => first i e' (by omega) he' (V.str.inj h))]
        exact iteF ⟨_, _, rfl, k2, by omega⟩
    · rintro σ H1 ⟨c2, c3, rfl, k1, hik⟩
      omega
end
end NV
/-! V1 -/
set_option Elab.async false
set_option linter.all false
set_option maxRecDepth 100000
set_option maxHeartbeats 600000
/-! the package's check_reads, asked of what is there -/
namespace NV
open PySem PySem.Spec PyProof.Rows L2
open C8 (pss_cut pe_gc)
abbrev sCheckReads : Stmt := topS 33
theorem scCheckReads : FnScope ["log", "position", "cell"] ["log", "position", "cell"] (defScope sCheckReads) := ⟨rfl, rfl, rfl, by decide +kernel, rfl, by decide +kernel, by decide +kernel⟩
def spChecks : Sp := fun vs H Q _ => ∃ (v : V) (es : List Ent) (ex : List Addr) (k : Nat) (c : Str), vs = [v, .int (k : Nat), .str c] ∧ Rp ex H (logD es) v ∧ k ≤ es.length ∧ cellB c = true ∧ (∀ e, es[k]? = some e → c ∈ e.rs) ∧ Q .non H
section
variable {P : Program} {w : World} {K : PySem.W.Frag} {mg : Str → Option Value} {base : Heap}
theorem ok_checkreads (DCheckReads : Fn K mg "check_reads" sCheckReads ["log", "position", "cell"]) (DIsReadAt : Fn K mg "is_read_at" sIsReadAt ["log", "position", "cell"]) (GIsReadAt : FnOk P w K mg base CX0 3 DIsReadAt.f DIsReadAt.fd ["log", "position", "cell"] spReadAt) :
    FnOk P w K mg base CX0 4 DCheckReads.f DCheckReads.fd ["log", "position", "cell"] spChecks := by
  refine DCheckReads.F.ok scCheckReads (fun vs H Q E h => ?_) (fun cdv A outer s H vs Q E hr h => ?_)
  · obtain ⟨v, es, ex, k, c, rfl, _⟩ := h
    rfl
  obtain ⟨v, es, ex, k, c, rfl, rv, hk, hc, hrs, q⟩ := h
  refine ⟨_, pss_one (ps_if (pt_not (pt_val (pe_fn DIsReadAt GIsReadAt hr (pa_cons (pv 0) (pa_cons (pv 1) (pa_cons (pv 2) pa_nil))))))
      (pss_one (ps_dead _))
      pss_nil), ?_⟩
  exact ⟨_, rfl, _, rfl, _, rfl, v, es, ex, k, c, rfl, rv, hk, hc, hrs, _, rfl, iteF q⟩
end
end NV
/-! V2 -/
set_option Elab.async false
set_option linter.all false
set_option maxRecDepth 100000
set_option maxHeartbeats 1000000
/-! the package's without_retracted, source_before -/
namespace NV
open PySem PySem.Spec PyProof.Rows L2
open C8 (pss_cut pe_gc)
abbrev sWithoutRetracted : Stmt := topS 39
theorem scWithoutRetracted : FnScope ["log", "retracted", "gone", "entry_id", "entry"] ["log", "retracted"] (defScope sWithoutRetracted) := ⟨rfl, rfl, rfl, by decide +kernel, rfl, by decide +kernel, by decide +kernel⟩
/-! ### a list or a tuple is gone through -/
def Jn (K : PySem.W.Frag) (b : Bool) (a : Addr) : It := if b then Itl K a else Itt K a
def iSeq (K : PySem.W.Frag) (tl : TE) : TI := fun σ H R => tl σ H fun x H1 => ∃ (a : Addr) (xs : List V) (b : Bool), x = .ref a ∧ (if b then SqL K H1 a xs else SqT K H1 a xs) ∧ R (Jn K b a) H1
theorem pi_seq {X : Cx} {tg l : Expr} {tl : TE} (K : PySem.W.Frag) (hl : PE X l tl) (hK : X.K = K := by rfl) : PI X tg l (iSeq K tl) := by
  subst hK
  constructor
  intro pins s σ H R I h
  refine thn (hl.run pins s σ H _ I h) ?_
  rintro v s1 ⟨x, H1, J, rel, a, xs, b, rfl, at_, q⟩
  obtain rfl : v = .ref a := rel
  have new : FpOk X pins H1 s1.heap.objs.size := J.fpOk (Nat.le_refl _) (J.hok.fresh (Nat.le_refl _))
  have one : ∀ b ∈ [s1.heap.objs.size], FpOk X pins H1 b := fun b hb => by
    rw [List.mem_singleton.mp hb]
    exact new
  cases b with
  | true =>
    obtain ⟨us, _, t, _⟩ := J.list at_
    exact wpAny_pyIter_list t.isList ⟨_, _, _, _, H1, rfl, J.kept (t' := s1.toks) (fun b o e => Heap.get?_push_of_some _ e), turn_list a _, ⟨_, Heap.get?_push_size _ rfl, rfl, rfl⟩, one, q⟩
  | false =>
    obtain ⟨us, _, t, _⟩ := J.tuple at_
    exact wpAny_pyIter_tuple (items := us.toArray) t ⟨_, _, _, _, H1, rfl, J.kept (t' := s1.toks) (fun b o e => Heap.get?_push_of_some _ e), turn_tuple a _, ⟨_, Heap.get?_push_size _ rfl, rfl, rfl⟩, one, q⟩
/-- a dict comprehension by what holds at each turn -/
theorem dc_inv {J : It} {g : TG} {tt : TT} {tk tv : TE} {vs : List Nat} {σ : L2.St} {C : Addr} {H1 : Hp} {Qd : Hp → Prop} (n : Nat) (Pv : Nat → Hp → Prop) (h0 : Pv 0 (upd H1 C (.dK []))) (hd : ∀ H, Pv n H → J.stop n H ∧ Qd H) (hgo : ∀ i H, i < n → Pv i H → J.go i H)
    (hs : ∀ i H x H', i < n → Pv i H → J.yld i H x H' → g x (wipe σ vs) H' fun σ2 H2 => wipe σ2 vs = wipe σ vs ∧ tt σ2 H2 fun b H3 => if b = true then tk σ2 H3 fun y H4 => tv σ2 H4 fun z H5 => ∃ kvs k, y = kV k ∧ H5 C = some (.dK kvs) ∧ kvs.length < sizeLine ∧ Pv (i + 1) (upd H5 C (.dK (putK kvs k z))) else Pv (i + 1) H3) :
    ∃ W : Nat → Nat → Hp → Prop, (∃ m, W 0 m (upd H1 C (.dK []))) ∧ ∀ i m H, W i m H →
      (J.stop i H ∧ Qd H) ∨ (J.go i H ∧ ∃ Nx : Hp → Prop, (∀ H', Nx H' → ∃ m', m' < m ∧ W (i + 1) m' H') ∧ ∀ x H', J.yld i H x H' → g x (wipe σ vs) H' fun σ2 H2 => wipe σ2 vs = wipe σ vs ∧ tt σ2 H2 fun b H3 =>
        if b = true then tk σ2 H3 fun y H4 => tv σ2 H4 fun z H5 => ∃ kvs k, y = kV k ∧ H5 C = some (.dK kvs) ∧ kvs.length < sizeLine ∧ Nx (upd H5 C (.dK (putK kvs k z))) else Nx H3) := by
  refine ⟨fun i m H => m + i = n ∧ Pv i H, ⟨n, rfl, h0⟩, ?_⟩
  rintro i m H ⟨hm, p⟩
  cases m with
  | zero =>
    obtain rfl : i = n := by omega
    exact .inl (hd H p)
  | succ m => exact .inr ⟨hgo i H (by omega) p, Pv (i + 1), fun H' q => ⟨m, by omega, by omega, q⟩, fun x H' y => hs i H x H' (by omega) p y⟩
/-! ### the log without some writes -/
def liveB (es : List Ent) (gone : List Str) : List Ent := es.filter fun e => decide (e.id ∉ gone)
theorem live_range (es : List Ent) (gone : List Str) (d : Ent) : liveB es gone = ((List.range es.length).filter fun j => decide ((es.getD j d).id ∉ gone)).map fun j => es.getD j d := by
  have e : (List.range es.length).map (fun j => es.getD j d) = es := by
    apply List.ext_getElem
    · simp
    · intro j h1 h2
      simp [List.getD_eq_getElem?_getD, List.getElem?_eq_getElem h2]
  conv => lhs; rw [← e]
  unfold liveB
  rw [List.filter_map]
  rfl
theorem rp_sel {ex : List Addr} {H : Hp} {es : List Ent} {xs : List V} (hx : RpAll ex H (es.map Ent.data) xs) (d : Ent) : ∀ l : List Nat, (∀ j ∈ l, j < es.length) → RpAll ex H ((l.map fun j => es.getD j d).map Ent.data) (l.map fun j => xs.getD j .non)
  | [], _ => rfl
  | j :: l, h => by
    have hj := h j List.mem_cons_self
    obtain ⟨v, hv, rv⟩ := RpAll.at hx (show (es.map Ent.data)[j]? = some (es.getD j d).data by rw [List.getElem?_map, List.getD_eq_getElem?_getD, List.getElem?_eq_getElem hj]; rfl)
    refine ⟨v, _, ?_, rv, rp_sel hx d l fun i hi => h i (List.mem_cons_of_mem _ hi)⟩
    rw [List.map_cons, List.getD_eq_getElem?_getD, hv]
    rfl
/-- names at a, in a list (b) or in a tuple -/
def Names (K : PySem.W.Frag) (b : Bool) (H : Hp) (a : Addr) (zs : List Str) : Prop := if b then H a = some (.lst (zs.map V.str)) else SqT K H a (zs.map V.str)
theorem Names.keep0 {K : PySem.W.Frag} {b : Bool} {H H' : Hp} {a : Addr} {zs : List Str} (h : Names K b H a zs) (k : Kp [] H H') : Names K b H' a zs := by
  cases b with
  | true => exact k _ _ (by simp) h
  | false => exact Kp.seqT k (by simp) h
/-- a is no new address, and what is new does not matter -/
theorem Names.seq {K : PySem.W.Frag} {b : Bool} {H : Hp} {a : Addr} {zs : List Str} (h : Names K b H a zs) : if b then SqL K H a (zs.map V.str) else SqT K H a (zs.map V.str) := by
  cases b with
  | true => exact .inl (.inl h)
  | false => exact h
section
variable {K : PySem.W.Frag} {b : Bool} {H : Hp} {a : Addr} {zs : List Str}
theorem Names.go {i : Nat} (h : Names K b H a zs) (hi : i < zs.length) : (Jn K b a).go i H := by
  have hx : (zs.map V.str)[i]? = some (V.str zs[i]) := by rw [List.getElem?_map, List.getElem?_eq_getElem hi]; rfl
  cases b with
  | true => exact ⟨_, _, .inl (.inl h), hx⟩
  | false => exact ⟨_, _, h, hx⟩
theorem Names.stop (h : Names K b H a zs) : (Jn K b a).stop zs.length H := by
  cases b with
  | true => exact ⟨_, .inl (.inl h), by rw [List.length_map]; exact Nat.le_refl _⟩
  | false => exact ⟨_, h, by rw [List.length_map]; exact Nat.le_refl _⟩
theorem Names.yld {i : Nat} {x : V} {H' : Hp} (h : Names K b H a zs) (y : (Jn K b a).yld i H x H') : H' = H ∧ ∃ z, zs[i]? = some z ∧ x = .str z := by
  have fin : (zs.map V.str)[i]? = some x → ∃ z, zs[i]? = some z ∧ x = .str z := fun e => by
    rw [List.getElem?_map] at e
    cases hz : zs[i]? with
    | none => rw [hz] at e; cases e
    | some z => rw [hz] at e; exact ⟨z, rfl, (Option.some.inj e).symm⟩
  cases b with
  | true =>
    obtain ⟨e, g⟩ := y
    exact ⟨e, fin (g _ (.inl (.inl h)))⟩
  | false =>
    obtain ⟨e, g⟩ := y
    exact ⟨e, fin (g _ h)⟩
end
/-- a dict in which exactly these names stand, True -/
structure GoneAt (d : Addr) (zs : List Str) (n : Nat) (H : Hp) : Prop where
  at_ : ∃ kvs : List (Key × V), H d = some (.dK kvs) ∧ kvs.length ≤ n ∧ ∀ z : Str, (valV kvs (Sum.inr z : Key)).isSome = decide (z ∈ zs)
theorem GoneAt.put {d : Addr} {zs : List Str} {n : Nat} {H : Hp} {z : Str} {v : V} {kvs : List (Key × V)} (e : H d = some (.dK kvs)) (l : kvs.length ≤ n) (g : ∀ z : Str, (valV kvs (Sum.inr z : Key)).isSome = decide (z ∈ zs)) : GoneAt d (zs ++ [z]) (n + 1) (upd H d (.dK (putK kvs (Sum.inr z : Key) v))) := by
  refine ⟨_, upd_same, Nat.le_trans (length_putK _ _ _) (by omega), fun y => ?_⟩
  rw [valV_put]
  by_cases h : (Sum.inr y : Key) = Sum.inr z
  · rw [if_pos h]
    have : y = z := Sum.inr.inj h
    rw [decide_eq_true (by rw [this]; simp)]
    rfl
  · rw [if_neg h, g y]
    have : y ≠ z := fun q => h (by rw [q])
    rw [decide_eq_decide]
    simp [this]
def spWithout (K : PySem.W.Frag) : Sp := fun vs H Q _ => ∃ (v : V) (g : Addr) (es : List Ent) (gone : List Str) (b : Bool) (ex : List Addr), vs = [v, .ref g] ∧ Rp ex H (logD es) v ∧ Names K b H g gone ∧ es.length ≤ 900 ∧ gone.length ≤ 1000 ∧ Live ex H ∧ ∀ p H', Kp [] H H' → Rp ex H' (logD (liveB es gone)) (.ref p) → Q (.ref p) H'
section
variable {P : Program} {w : World} {K : PySem.W.Frag} {mg : Str → Option Value} {base : Heap}
theorem ok_without (DWithoutRetracted : Fn K mg "without_retracted" sWithoutRetracted ["log", "retracted"]) (b_tuple : mg "tuple" = none) (g1 : ∃ u, mg "ID" = some u ∧ L2.RelV (.int 1) u) :
    FnOk P w K mg base CX0 1 DWithoutRetracted.f DWithoutRetracted.fd ["log", "retracted"] (spWithout K) := by
  refine DWithoutRetracted.F.ok scWithoutRetracted (fun vs H Q E h => ?_) (fun cdv A outer s H vs Q E hr h => ?_)
  · obtain ⟨v, g, es, gone, b, ex, rfl, _⟩ := h
    rfl
  obtain ⟨v, g, es, gone, b, ex, rfl, rv, ng, h100, hg, lv, q⟩ := h
  have hu := hu_of hr
  have line : (10000 : Nat) < sizeLine := by decide
  refine ⟨_, pss_cons (ps_set (i := 2) scWithoutRetracted.nd rfl (.inr rfl) (pe_dc (own := [("entry_id", 3)]) (g := gName 3) (tt := tYes) (by rfl) scWithoutRetracted.nd (pi_seq K (pv 1)) (blkOk_by (N := ["log", "retracted", "gone", "entry_id", "entry"]) (sc := defScope sWithoutRetracted) (by decide +kernel))
        (fun _ _ _ _ _ => pg_name (i := 3) scWithoutRetracted.nd rfl (.inl rfl)) (fun _ _ _ _ _ => pts_nil) (fun _ _ _ _ _ => pv 3) (fun _ _ _ _ _ => pe_bl)))
      (pss_one (ps_ret (pe_callTy call_tuple_of (by rfl) b_tuple (by decide +kernel) (pa_cons (pe_lc (own := [("entry", 4)]) (g := gName 4) (by rfl) scWithoutRetracted.nd (piTupE K (pv 0)) (blkOk_by (N := ["log", "retracted", "gone", "entry_id", "entry"]) (sc := defScope sWithoutRetracted) (by decide +kernel)) (fun _ _ _ _ _ => (pg_name (i := 4) scWithoutRetracted.nd rfl (.inl rfl))) (fun _ _ _ _ _ => (pts_one (pt_cmp (pc_dnotin hu (pe_ix (ixtE K) (pv 4) (pe_gc (v := .int 1) rfl g1) (fun _ _ => rfl)) (pv 2))))) (fun _ _ _ _ _ => (pv 4))) pa_nil)))), ?_⟩
  obtain ⟨a, xs, rfl, na, ha, hx⟩ := rv
  have hl : es.length = xs.length := by
    have := hx.length
    rwa [List.length_map] at this
  refine ⟨_, rfl, g, gone.map V.str, b, rfl, ng.seq, fun D nD => ?_⟩
  have kD : Kp [] H (upd H D (.dK [])) := Kp.laid nD
  have naD : a ≠ D := fun z => by rw [z, nD] at ha; cases ha
  have ngk : ∀ {H' : Hp}, Kp [D] (upd H D (.dK [])) H' → Names K b H' g gone := fun k => ng.keep0 (Kp.drop ((kD.mono (by simp)).trans k) nD)
  refine dc_inv (J := Jn K b g) gone.length (fun j H' => Kp [D] (upd H D (.dK [])) H' ∧ GoneAt D (gone.take j) j H') ⟨Kp.refl, [], upd_same, Nat.zero_le _, fun z => by simp [valV]⟩ ?_ (fun i H' hi ⟨k, _⟩ => (ngk k).go hi) ?_
  case refine_2 =>
    rintro i Hz x H1 hi ⟨k, kvs, e, l, gd⟩ y
    obtain ⟨rfl, z, hz, rfl⟩ := (ngk k).yld y
    refine ⟨rfl, yes_on ?_⟩
    refine ⟨_, rfl, kvs, Sum.inr z, rfl, e, by omega, k.trans (Kp.put (by simp)), ?_⟩
    have := GoneAt.put (z := z) (v := .bl true) e l gd
    rw [List.take_add_one, hz]
    exact this
  case refine_1 =>
    rintro H1 ⟨k, gd⟩
    refine ⟨(ngk k).stop, ?_⟩
    rw [List.take_length] at gd
    obtain ⟨kvs, e, l, gd⟩ := gd
    have k1 : Kp [] H H1 := Kp.drop ((kD.mono (by simp)).trans k) nD
    have ha1 := k1 _ _ (by simp) ha
    have hx1 := RpAll.keep (k1.mono (ex' := ex) (by simp)) _ _ hx
    let d0 : Ent := .qu "" []
    refine ⟨_, rfl, a, rfl, ⟨xs, .inl (.inl ha1)⟩, fun C nC => ?_⟩
    have nDC : D ≠ C := fun z => by rw [z, nC] at e; cases e
    refine lc_growT (fun j => decide ((es.getD j d0).id ∉ gone)) (fun j => xs.getD j .non) (.inl (.inl ha1)) nC (by omega) (fun j x H8 Q8 hxj k8 q8 => ?_) (fun j x H8 Q8 hxj hpj k8 q8 => ?_) fun H8 k8 e8 => ?_
    · have hj : j < es.length := by
        have := (List.getElem?_eq_some_iff.mp hxj).1
        omega
      have hej : es[j]? = some (es.getD j d0) := by rw [List.getD_eq_getElem?_getD, List.getElem?_eq_getElem hj]; rfl
      generalize es.getD j d0 = ee at hej q8
      obtain ⟨x', hx', rx⟩ := RpAll.at hx1 (show (es.map Ent.data)[j]? = some ee.data by rw [List.getElem?_map, hej]; rfl)
      rw [hxj] at hx'
      obtain rfl := Option.some.inj hx'
      have r8 := Rp.keep (k8.mono (ex' := C :: ex) (by simp)) _ _ (Rp.apart nC _ _ rx)
      obtain ⟨d1, ed1, hd1, _⟩ := ent_reads ee
      refine ⟨_, rfl, c_of (ent_ix r8 ed1 hd1 rfl fun vi ri => ?_)⟩
      obtain rfl : vi = .str ee.id := ri
      refine ⟨_, rfl, D, _, rfl, DGet.k (k := Sum.inr ee.id) (k8 _ _ (by simpa using nDC) e), ?_⟩
      have : (!(valV kvs (Sum.inr ee.id : Key)).isSome) = decide (ee.id ∉ gone) := by
        rw [gd]
        by_cases h : ee.id ∈ gone <;> simp [h]
      rw [this]
      exact ⟨_, rfl, q8 _ Kp.refl⟩
    · refine ⟨x, rfl, ?_⟩
      have : xs.getD j .non = x := by rw [List.getD_eq_getElem?_getD, hxj]; rfl
      rw [← this]
      exact q8 _ Kp.refl
    · have k18 : Kp [] H1 H8 := Kp.drop k8 nC
      have hx8 : RpAll ex H8 (es.map Ent.data) xs := RpAll.keep (k18.mono (by simp)) _ _ hx1
      have hp := rp_sel hx8 d0 ((List.range es.length).filter fun j => decide ((es.getD j d0).id ∉ gone)) fun j hj => List.mem_range.mp (List.mem_filter.mp hj).1
      rw [← live_range] at hp
      rw [← hl] at e8
      refine ⟨C, _, rfl, .inl ⟨.inl (.inl e8), fun l nl => ?_⟩⟩
      exact q l _ ((k1.trans k18).trans (Kp.laid nl)) (rp_new ((lv.kp0 (k1.trans k18)).fresh nl) nl hp)
end
end NV
/-! T2 -/
set_option Elab.async false
set_option linter.all false
set_option maxRecDepth 100000
set_option maxHeartbeats 600000
/-! what a target depends on: the log without some writes, the positions met -/
namespace NV
open PySem PySem.Spec PyProof.Rows L2
def backL (l : List Ent) (rows : List Row) : List Row := l.foldr stepT rows
theorem back_take {es : List Ent} {k : Nat} {row : Row} (hk : k ≤ es.length) : ∀ n, n ≤ k → backN es k row n = backL ((es.take k).drop (k - n)) [row]
  | 0, _ => by
    rw [Nat.sub_zero, List.drop_of_length_le (by rw [List.length_take]; omega)]
    rfl
  | n + 1, hn => by
    have ih := back_take (row := row) hk n (by omega)
    have hj : k - (n + 1) < (es.take k).length := by rw [List.length_take]; omega
    rw [List.drop_eq_getElem_cons hj, show k - (n + 1) + 1 = k - n by omega]
    unfold backN backL
    rw [List.foldr_cons, List.getElem_take, List.getElem?_eq_getElem (show k - (n + 1) < es.length by omega)]
    dsimp only
    rw [ih]
    rfl
theorem back_all {es : List Ent} {k : Nat} {row : Row} (hk : k ≤ es.length) : backN es k row k = backL (es.take k) [row] := by
  have := back_take (row := row) hk k (Nat.le_refl _)
  rwa [Nat.sub_self, List.drop_zero] at this
/-- a retracted write, as if it read and wrote nothing -/
def bl (gone : List Str) (e : Ent) : Ent := if e.id ∈ gone then .wr e.id [] [] none else e
theorem bl_id (gone : List Str) (e : Ent) : (bl gone e).id = e.id := by
  unfold bl
  split <;> rfl
theorem step_none {e : Ent} (h : e.ws = []) (rows : List Row) : stepT e rows = rows := by
  have no : rows.any (openIn e) = false := by
    rw [List.any_eq_false]
    intro r _
    unfold openIn
    rw [h]
    simp
  unfold stepT
  rw [no, if_neg Bool.false_ne_true]
theorem back_live (gone : List Str) : ∀ (l : List Ent) (rows : List Row), backL (liveB l gone) rows = backL (l.map (bl gone)) rows
  | [], _ => rfl
  | e :: l, rows => by
    have ih := back_live gone l rows
    unfold liveB at ih ⊢
    rw [List.filter_cons, List.map_cons]
    by_cases h : e.id ∈ gone
    · rw [if_neg (by simp [h])]
      have hb : bl gone e = .wr e.id [] [] none := if_pos h
      show _ = stepT (bl gone e) (backL (l.map (bl gone)) rows)
      rw [hb, step_none rfl, ih]
    · rw [if_pos (by simp [h])]
      have hb : bl gone e = e := if_neg h
      show stepT e (backL _ rows) = stepT (bl gone e) (backL (l.map (bl gone)) rows)
      rw [hb, ih]
/-! ### the positions met, the last first -/
def metL (es : List Ent) (q : Ask) : Nat → List Nat
  | 0 => []
  | n + 1 => if hits es (q.2.2 - (n + 1)) (asks es q n) then metL es q n ++ [q.2.2 - (n + 1)] else metL es q n
theorem asks_succ (es : List Ent) (q : Ask) (n : Nat) : asks es q (n + 1) = if hits es (q.2.2 - (n + 1)) (asks es q n) then asks es q n ++ asksAt es (q.2.2 - (n + 1)) else asks es q n := rfl
theorem metL_succ (es : List Ent) (q : Ask) (n : Nat) : metL es q (n + 1) = if hits es (q.2.2 - (n + 1)) (asks es q n) then metL es q n ++ [q.2.2 - (n + 1)] else metL es q n := rfl
theorem asks_met (es : List Ent) (q : Ask) : ∀ n, asks es q n = q :: (metL es q n).flatMap (asksAt es)
  | 0 => rfl
  | n + 1 => by
    have ih := asks_met es q n
    rw [asks_succ, metL_succ]
    by_cases h : hits es (q.2.2 - (n + 1)) (asks es q n) = true
    · rw [if_pos h, if_pos h, List.flatMap_append, ih]
      simp
    · rw [if_neg h, if_neg h, ih]
theorem asks_mono {es : List Ent} {q : Ask} : ∀ {n m : Nat}, n ≤ m → ∀ r ∈ asks es q n, r ∈ asks es q m
  | n, 0, h, r, hr => by
    obtain rfl : n = 0 := by omega
    exact hr
  | n, m + 1, h, r, hr => by
    by_cases e : n = m + 1
    · rw [← e]; exact hr
    · have := asks_mono (show n ≤ m by omega) r hr
      unfold asks
      split
      · exact List.mem_append_left _ this
      · exact this
theorem met_range {es : List Ent} {q : Ask} : ∀ {n : Nat}, n ≤ q.2.2 → ∀ p ∈ metL es q n, q.2.2 - n ≤ p ∧ p < q.2.2
  | 0, _, p, h => by cases h
  | n + 1, hn, p, h => by
    unfold metL at h
    split at h
    · rcases List.mem_append.mp h with z | z
      · have := met_range (n := n) (by omega) p z
        omega
      · rw [List.mem_singleton.mp z]
        omega
    · have := met_range (n := n) (by omega) p h
      omega
/-- strictly falling -/
theorem met_falls {es : List Ent} {q : Ask} : ∀ {n : Nat}, n ≤ q.2.2 → (metL es q n).Pairwise (· > ·)
  | 0, _ => List.Pairwise.nil
  | n + 1, hn => by
    have ih := met_falls (es := es) (q := q) (n := n) (by omega)
    unfold metL
    split
    · refine List.pairwise_append.mpr ⟨ih, List.pairwise_singleton _ _, fun a ha b hb => ?_⟩
      have := met_range (n := n) (by omega) a ha
      rw [List.mem_singleton.mp hb]
      omega
    · exact ih
/-- a position is met just if some row that is asked has its source there -/
theorem mem_met {es : List Ent} {q : Ask} : ∀ {n : Nat}, n ≤ q.2.2 → ∀ p, p ∈ metL es q n ↔ q.2.2 - n ≤ p ∧ ∃ r ∈ asks es q n, lastIx es r.2.2 r.2.1 = some p
  | 0, _, p => by
    constructor
    · intro h; cases h
    · rintro ⟨h1, r, hr, h2⟩
      rw [List.mem_singleton.mp hr] at h2
      have := (lastIx_lt h2).1
      omega
  | n + 1, hn, p => by
    have ih := mem_met (es := es) (q := q) (n := n) (by omega)
    have key : hits es (q.2.2 - (n + 1)) (asks es q n) = true ↔ ∃ r ∈ asks es q n, lastIx es r.2.2 r.2.1 = some (q.2.2 - (n + 1)) := by
      unfold hits
      rw [List.any_eq_true]
      constructor
      · rintro ⟨r, hr, h⟩; exact ⟨r, hr, of_decide_eq_true h⟩
      · rintro ⟨r, hr, h⟩; exact ⟨r, hr, decide_eq_true h⟩
    rw [metL_succ, asks_succ]
    by_cases h : hits es (q.2.2 - (n + 1)) (asks es q n) = true
    · rw [if_pos h, if_pos h]
      constructor
      · intro hp
        rcases List.mem_append.mp hp with z | z
        · obtain ⟨h1, r, hr, h2⟩ := (ih p).1 z
          exact ⟨by omega, r, List.mem_append_left _ hr, h2⟩
        · rw [List.mem_singleton.mp z]
          obtain ⟨r, hr, h2⟩ := key.1 h
          exact ⟨Nat.le_refl _, r, List.mem_append_left _ hr, h2⟩
      · rintro ⟨h1, r, hr, h2⟩
        rcases List.mem_append.mp hr with z | z
        · by_cases e : p = q.2.2 - (n + 1)
          · exact List.mem_append_right _ (by rw [e]; simp)
          · exact List.mem_append_left _ ((ih p).2 ⟨by omega, r, z, h2⟩)
        · have hpos : r.2.2 = q.2.2 - (n + 1) := by
            unfold asksAt at z
            split at z
            · obtain ⟨c, _, rfl⟩ := List.mem_map.mp z
              rfl
            · cases z
          have := (lastIx_lt h2).1
          omega
    · rw [if_neg h, if_neg h]
      constructor
      · intro hp
        obtain ⟨h1, r, hr, h2⟩ := (ih p).1 hp
        exact ⟨by omega, r, hr, h2⟩
      · rintro ⟨h1, r, hr, h2⟩
        by_cases e : p = q.2.2 - (n + 1)
        · exact absurd (key.2 ⟨r, hr, by rw [h2, e]⟩) h
        · exact (ih p).2 ⟨by omega, r, hr, h2⟩
/-- the sources reached from the target -/
inductive Reach (es : List Ent) (q : Ask) : Nat → Prop
  | base {p : Nat} (h : lastIx es q.2.2 q.2.1 = some p) : Reach es q p
  | step {p j : Nat} {e : Ent} {c : Str} (r : Reach es q j) (he : es[j]? = some e) (hc : c ∈ e.rs) (h : lastIx es j c = some p) : Reach es q p
theorem reach_lt {es : List Ent} {q : Ask} {p : Nat} (r : Reach es q p) : p < q.2.2 := by
  induction r with
  | base h => exact (lastIx_lt h).1
  | step _ _ _ h ih =>
    have := (lastIx_lt h).1
    omega
theorem asks_reach {es : List Ent} {q : Ask} : ∀ {n : Nat}, n ≤ q.2.2 → ∀ r ∈ asks es q n, r = q ∨ ∃ j e c, Reach es q j ∧ es[j]? = some e ∧ c ∈ e.rs ∧ r = (e.id, c, j)
  | 0, _, r, hr => .inl (List.mem_singleton.mp hr)
  | n + 1, hn, r, hr => by
    have ih := asks_reach (es := es) (q := q) (n := n) (by omega)
    unfold asks at hr
    split at hr
    · rename_i hh
      rcases List.mem_append.mp hr with z | z
      · exact ih r z
      · unfold hits at hh
        obtain ⟨r', hr', h2⟩ := List.any_eq_true.mp hh
        have h2 := of_decide_eq_true h2
        have R : Reach es q (q.2.2 - (n + 1)) := by
          rcases ih r' hr' with rfl | ⟨j, e, c, R, he, hc, rfl⟩
          · exact .base h2
          · exact .step R he hc h2
        unfold asksAt at z
        cases he : es[q.2.2 - (n + 1)]? with
        | none => rw [he] at z; cases z
        | some e =>
          rw [he] at z
          obtain ⟨c, hc, rfl⟩ := List.mem_map.mp z
          exact .inr ⟨_, e, c, R, he, hc, rfl⟩
    · exact ih r hr
theorem met_iff {es : List Ent} {q : Ask} (p : Nat) : p ∈ metL es q q.2.2 ↔ Reach es q p := by
  have me : p ∈ metL es q q.2.2 ↔ ∃ r ∈ asks es q q.2.2, lastIx es r.2.2 r.2.1 = some p := by
    rw [mem_met (Nat.le_refl _) p]
    exact ⟨fun h => h.2, fun h => ⟨by omega, h⟩⟩
  constructor
  · intro h
    obtain ⟨r, hr, h2⟩ := me.1 h
    rcases asks_reach (Nat.le_refl _) r hr with rfl | ⟨j, e, c, R, he, hc, rfl⟩
    · exact .base h2
    · exact .step R he hc h2
  · intro R
    induction R with
    | base h =>
      rw [mem_met (Nat.le_refl _)]
      exact ⟨by omega, q, by rw [asks_met]; exact List.mem_cons_self, h⟩
    | @step p j e c R he hc h ih =>
      have hj := ih (by rw [mem_met (Nat.le_refl _)]; exact ⟨fun z => z.2, fun z => ⟨by omega, z⟩⟩)
      rw [mem_met (Nat.le_refl _)]
      refine ⟨by omega, (e.id, c, j), ?_, h⟩
      rw [asks_met]
      refine List.mem_cons_of_mem _ (List.mem_flatMap.mpr ⟨j, hj, ?_⟩)
      unfold asksAt
      rw [he]
      exact List.mem_map.mpr ⟨c, hc, rfl⟩
/-- what the rows say -/
def rowsOf (es : List Ent) (q : Ask) : List Row := (asks es q q.2.2).map (rowA es 0)
theorem rows_back {es : List Ent} {q : Ask} (hk : q.2.2 ≤ es.length) : backL (es.take q.2.2) [(q.1, q.2.1, none)] = rowsOf es q := by
  rw [← back_all hk, back_asks hk q.2.2 (Nat.le_refl _), Nat.sub_self]
  rfl
/-- the rows in the log without the retracted writes -/
theorem rows_live {es : List Ent} {gone : List Str} {q : Ask} (hk : q.2.2 ≤ es.length) : backL (liveB (es.take q.2.2) gone) [(q.1, q.2.1, none)] = rowsOf (es.map (bl gone)) q := by
  rw [back_live, List.map_take]
  exact rows_back (by rw [List.length_map]; exact hk)
end NV
/-! T3 -/
set_option Elab.async false
set_option linter.all false
set_option maxRecDepth 100000
set_option maxHeartbeats 600000
/-! rows that wait, rows that are closed one by one -/
namespace NV
open PySem PySem.Spec PyProof.Rows L2
def keyR (r : Row) : Str × Str := (r.1, r.2.1)
/-- who waits for a cell -/
def openNs (rows : List Row) (c : Str) : List Str := (rows.filter fun r => r.2.2.isNone && decide (r.2.1 = c)).map (·.1)
theorem mem_open {rows : List Row} {c a : Str} : a ∈ openNs rows c ↔ (a, c, none) ∈ rows := by
  unfold openNs
  rw [List.mem_map]
  constructor
  · rintro ⟨⟨x, y, o⟩, hr, rfl⟩
    obtain ⟨h1, h2⟩ := List.mem_filter.mp hr
    simp only [Bool.and_eq_true, decide_eq_true_eq, Option.isNone_iff_eq_none] at h2
    obtain ⟨rfl, rfl⟩ := h2
    exact h1
  · intro h
    exact ⟨_, List.mem_filter.mpr ⟨h, by simp⟩, rfl⟩
theorem open_nil {rows : List Row} {c : Str} : openNs rows c = [] ↔ ∀ r ∈ rows, (r.2.2.isNone && decide (r.2.1 = c)) = false := by
  unfold openNs
  rw [List.map_eq_nil_iff, List.filter_eq_nil_iff]
  constructor
  · intro h r hr
    exact Bool.eq_false_iff.mpr (h r hr)
  · intro h r hr
    rw [h r hr]
    exact Bool.false_ne_true
/-- some names of a cell get their source -/
def setR (w id : Str) (names : List Str) (r : Row) : Row := if r.2.1 = w ∧ r.1 ∈ names then (r.1, r.2.1, some id) else r
def setN (w id : Str) (names : List Str) (rows : List Row) : List Row := rows.map (setR w id names)
theorem setR_yes {w id : Str} {names : List Str} {r : Row} (h1 : r.2.1 = w) (h2 : r.1 ∈ names) : setR w id names r = (r.1, r.2.1, some id) := if_pos ⟨h1, h2⟩
theorem setR_no {w id : Str} {names : List Str} {r : Row} (h : ¬ (r.2.1 = w ∧ r.1 ∈ names)) : setR w id names r = r := if_neg h
theorem setR_key (w id : Str) (names : List Str) (r : Row) : keyR (setR w id names r) = keyR r := by
  unfold setR
  split <;> rfl
/-- a row whose cell is among ws is closed -/
def closeP (ws : List Str) (id : Str) (r : Row) : Row := if r.2.2.isNone && decide (r.2.1 ∈ ws) then (r.1, r.2.1, some id) else r
def closeCs (ws : List Str) (id : Str) (rows : List Row) : List Row := rows.map (closeP ws id)
theorem closeP_yes {ws : List Str} {id : Str} {r : Row} (h1 : r.2.2 = none) (h2 : r.2.1 ∈ ws) : closeP ws id r = (r.1, r.2.1, some id) := if_pos (by rw [h1]; simp [h2])
theorem closeP_no {ws : List Str} {id : Str} {r : Row} (h : ¬ (r.2.2 = none ∧ r.2.1 ∈ ws)) : closeP ws id r = r := if_neg (fun z => h (by simpa using z))
theorem closeP_key (ws : List Str) (id : Str) (r : Row) : keyR (closeP ws id r) = keyR r := by
  unfold closeP
  split <;> rfl
theorem keys_set (w id : Str) (names : List Str) (rows : List Row) : (setN w id names rows).map keyR = rows.map keyR := by
  unfold setN
  rw [List.map_map]
  exact List.map_congr_left fun r _ => setR_key w id names r
theorem keys_close (ws : List Str) (id : Str) (rows : List Row) : (closeCs ws id rows).map keyR = rows.map keyR := by
  unfold closeCs
  rw [List.map_map]
  exact List.map_congr_left fun r _ => closeP_key ws id r
theorem set_more (w id : Str) (l : List Str) (a : Str) (rows : List Row) : setN w id [a] (setN w id l rows) = setN w id (l ++ [a]) rows := by
  unfold setN
  rw [List.map_map]
  refine List.map_congr_left fun r _ => ?_
  show setR w id [a] (setR w id l r) = setR w id (l ++ [a]) r
  by_cases h1 : r.2.1 = w
  · by_cases h2 : r.1 ∈ l
    · rw [setR_yes h1 h2, setR_yes h1 (List.mem_append_left _ h2)]
      by_cases h3 : r.1 = a
      · exact setR_yes (r := (r.1, r.2.1, some id)) h1 (by rw [h3]; simp)
      · exact setR_no fun z => h3 (List.mem_singleton.mp z.2)
    · rw [setR_no (fun z => h2 z.2)]
      by_cases h3 : r.1 = a
      · rw [setR_yes h1 (by rw [h3]; simp), setR_yes h1 (by rw [h3]; simp)]
      · rw [setR_no (fun z => h3 (List.mem_singleton.mp z.2)), setR_no (fun z => (List.mem_append.mp z.2).elim h2 fun y => h3 (List.mem_singleton.mp y))]
  · rw [setR_no (names := l) (fun z => h1 z.1), setR_no (fun z => h1 z.1), setR_no (fun z => h1 z.1)]
theorem set_nil (w id : Str) (rows : List Row) : setN w id [] rows = rows := by
  unfold setN
  conv => rhs; rw [← List.map_id rows]
  exact List.map_congr_left fun r _ => setR_no fun z => by cases z.2
theorem key_inj {rows : List Row} (nd : (rows.map keyR).Nodup) {r r' : Row} (h : r ∈ rows) (h' : r' ∈ rows) (e : keyR r = keyR r') : r = r' := by
  induction rows with
  | nil => cases h
  | cons x l ih =>
    rw [List.map_cons, List.nodup_cons] at nd
    rcases List.mem_cons.mp h with a | a
    · rcases List.mem_cons.mp h' with b | b
      · rw [a, b]
      · exact absurd (by rw [← a, e]; exact List.mem_map.mpr ⟨r', b, rfl⟩) nd.1
    · rcases List.mem_cons.mp h' with b | b
      · exact absurd (by rw [← b, ← e]; exact List.mem_map.mpr ⟨r, a, rfl⟩) nd.1
      · exact ih nd.2 a b
/-- all that wait for w: then w is closed -/
theorem set_open {rows : List Row} (nd : (rows.map keyR).Nodup) (ws : List Str) (w id : Str) (hw : w ∉ ws) : setN w id (openNs (closeCs ws id rows) w) (closeCs ws id rows) = closeCs (ws ++ [w]) id rows := by
  have hn : ∀ r ∈ rows, r.2.1 = w → (r.1 ∈ openNs (closeCs ws id rows) w ↔ r.2.2 = none) := fun r hr e => by
    rw [mem_open]
    constructor
    · intro h
      obtain ⟨r', hr', he⟩ := List.mem_map.mp h
      by_cases hc : r'.2.2 = none ∧ r'.2.1 ∈ ws
      · rw [closeP_yes hc.1 hc.2] at he
        have := congrArg (fun x => x.2.2) he
        cases this
      · rw [closeP_no hc] at he
        have : r = r' := key_inj nd hr hr' (by rw [he]; unfold keyR; rw [e])
        rw [this, he]
    · intro h
      refine List.mem_map.mpr ⟨r, hr, ?_⟩
      rw [closeP_no (fun z => hw (by rw [← e]; exact z.2))]
      obtain ⟨a, b, o⟩ := r
      cases e
      cases h
      rfl
  generalize openNs (closeCs ws id rows) w = names at hn ⊢
  unfold setN closeCs
  rw [List.map_map]
  refine List.map_congr_left fun r hr => ?_
  show setR w id names (closeP ws id r) = closeP (ws ++ [w]) id r
  by_cases hc : r.2.2 = none ∧ r.2.1 ∈ ws
  · rw [closeP_yes hc.1 hc.2, closeP_yes hc.1 (List.mem_append_left _ hc.2)]
    exact setR_no fun z => hw (by rw [← z.1]; exact hc.2)
  · rw [closeP_no hc]
    by_cases e : r.2.1 = w
    · by_cases o : r.2.2 = none
      · rw [setR_yes e ((hn r hr e).2 o), closeP_yes o (by rw [e]; simp)]
      · rw [setR_no (fun z => o ((hn r hr e).1 z.2)), closeP_no (fun z => o z.1)]
    · rw [setR_no (fun z => e z.1), closeP_no (fun z => hc ⟨z.1, (List.mem_append.mp z.2).elim (fun y => y) fun y => absurd (List.mem_singleton.mp y) e⟩)]
theorem close_nil (id : Str) (rows : List Row) : closeCs [] id rows = rows := by
  unfold closeCs
  conv => rhs; rw [← List.map_id rows]
  exact List.map_congr_left fun r _ => closeP_no fun z => by cases z.2
theorem open_close {rows : List Row} {ws : List Str} {id c : Str} : openNs (closeCs ws id rows) c = if c ∈ ws then [] else openNs rows c := by
  unfold openNs closeCs
  induction rows with
  | nil => split <;> rfl
  | cons r l ih =>
    rw [List.map_cons, List.filter_cons, List.filter_cons]
    by_cases hc : r.2.2 = none ∧ r.2.1 ∈ ws
    · rw [closeP_yes hc.1 hc.2, if_neg (by simp)]
      by_cases h : c ∈ ws
      · rw [if_pos h] at ih ⊢
        exact ih
      · rw [if_neg h] at ih ⊢
        rw [ih, if_neg (fun z => h ?_)]
        simp only [Bool.and_eq_true, decide_eq_true_eq] at z
        rw [← z.2]
        exact hc.2
    · rw [closeP_no hc]
      by_cases h : c ∈ ws
      · rw [if_pos h] at ih ⊢
        rw [if_neg (fun z => hc ?_)]
        · exact ih
        · simp only [Bool.and_eq_true, decide_eq_true_eq, Option.isNone_iff_eq_none] at z
          exact ⟨z.1, by rw [z.2]; exact h⟩
      · rw [if_neg h] at ih ⊢
        split
        · rw [List.map_cons, List.map_cons, ih]
        · exact ih
/-- the step, as the program does it -/
theorem step_close {e : Ent} {rows : List Row} {ws : List Str} (h : ∀ c, c ∈ ws ↔ c ∈ e.ws ∧ openNs rows c ≠ []) : stepT e rows = if ws = [] then rows else closeCs ws e.id rows ++ e.rs.map fun c => (e.id, c, none) := by
  have same : ∀ r ∈ rows, openIn e r = (r.2.2.isNone && decide (r.2.1 ∈ ws)) := fun r hr => by
    unfold openIn
    cases ho : r.2.2 with
    | some x => rfl
    | none =>
      have ne : openNs rows r.2.1 ≠ [] := fun z => by
        have := open_nil.1 z r hr
        rw [ho] at this
        simp at this
      rw [decide_eq_decide.mpr (show r.2.1 ∈ e.ws ↔ r.2.1 ∈ ws from ⟨fun z => (h _).2 ⟨z, ne⟩, fun z => ((h _).1 z).1⟩)]
  unfold stepT
  by_cases hw : ws = []
  · have no : rows.any (openIn e) = false := by
      rw [List.any_eq_false]
      intro r hr
      rw [same r hr, hw]
      simp
    rw [no, if_neg Bool.false_ne_true, if_pos hw]
  · have yes : rows.any (openIn e) = true := by
      obtain ⟨c, hc⟩ := List.exists_mem_of_ne_nil _ hw
      have h2 := (h c).1 hc
      rw [List.any_eq_true]
      obtain ⟨a, ha⟩ := List.exists_mem_of_ne_nil _ h2.2
      have hr := mem_open.1 ha
      exact ⟨_, hr, by rw [same _ hr]; simp [hc]⟩
    rw [yes, if_pos rfl, if_neg hw]
    congr 1
    refine List.map_congr_left fun r hr => ?_
    unfold closeR closeP
    rw [same r hr]
/-! ### what the rows are like -/
theorem back_names {row : Row} : ∀ {l : List Ent}, ∀ r ∈ backL l [row], r.1 = row.1 ∨ r.1 ∈ l.map Ent.id
  | [], r, h => .inl (by rw [List.mem_singleton.mp h])
  | e :: l, r, h => by
    have ih := back_names (row := row) (l := l)
    have up : ∀ r' ∈ backL l [row], r'.1 = row.1 ∨ r'.1 ∈ (e :: l).map Ent.id := fun r' h' => (ih r' h').imp id fun z => List.mem_cons_of_mem _ z
    have h : r ∈ stepT e (backL l [row]) := h
    unfold stepT at h
    split at h
    · rcases List.mem_append.mp h with z | z
      · obtain ⟨r', h', rfl⟩ := List.mem_map.mp z
        have : (closeR e r').1 = r'.1 := by unfold closeR; split <;> rfl
        rw [this]
        exact up r' h'
      · obtain ⟨c, _, rfl⟩ := List.mem_map.mp z
        exact .inr List.mem_cons_self
    · exact up r h
theorem keys_closeR (e : Ent) (rows : List Row) : (rows.map (closeR e)).map keyR = rows.map keyR := by
  rw [List.map_map]
  refine List.map_congr_left fun r _ => ?_
  show keyR (closeR e r) = _
  unfold closeR
  split <;> rfl
theorem nodup_mapi {α β : Type} {f : α → β} (inj : ∀ a b, f a = f b → a = b) : ∀ {l : List α}, l.Nodup → (l.map f).Nodup
  | [], _ => List.nodup_nil
  | x :: l, h => by
    rw [List.nodup_cons] at h
    rw [List.map_cons, List.nodup_cons]
    refine ⟨fun z => ?_, nodup_mapi inj h.2⟩
    obtain ⟨y, hy, e⟩ := List.mem_map.mp z
    exact h.1 (by rw [← inj _ _ e]; exact hy)
theorem back_nd {row : Row} : ∀ {l : List Ent}, (l.map Ent.id).Nodup → row.1 ∉ l.map Ent.id → (∀ e ∈ l, e.rs.Nodup) → ((backL l [row]).map keyR).Nodup
  | [], _, _, _ => by
    show ([keyR row] : List _).Nodup
    simp
  | e :: l, nd, nz, hr => by
    rw [List.map_cons, List.nodup_cons] at nd
    have nz2 : row.1 ∉ l.map Ent.id := fun z => nz (List.mem_cons_of_mem _ z)
    have ih := back_nd (row := row) nd.2 nz2 fun u hu => hr u (List.mem_cons_of_mem _ hu)
    show ((stepT e (backL l [row])).map keyR).Nodup
    unfold stepT
    split
    · rw [List.map_append, keys_closeR, List.map_map]
      refine List.nodup_append.mpr ⟨ih, nodup_mapi (fun a b h => congrArg Prod.snd h) (hr e List.mem_cons_self), fun a ha b hb => ?_⟩
      obtain ⟨c, _, rfl⟩ := List.mem_map.mp hb
      obtain ⟨r, h, rfl⟩ := List.mem_map.mp ha
      intro z
      have z1 : r.1 = e.id := congrArg Prod.fst z
      rcases back_names r h with q | q
      · exact nz (by rw [← q, z1]; exact List.mem_cons_self)
      · exact nd.1 (by rw [← z1]; exact q)
    · exact ih
theorem back_len {row : Row} : ∀ {l : List Ent}, (∀ e ∈ l, e.rs.length ≤ 3) → (backL l [row]).length ≤ 1 + 3 * l.length
  | [], _ => Nat.le_refl _
  | e :: l, h => by
    have ih := back_len (row := row) (l := l) fun u hu => h u (List.mem_cons_of_mem _ hu)
    have := h e List.mem_cons_self
    show (stepT e (backL l [row])).length ≤ _
    rw [List.length_cons]
    unfold stepT
    split
    · rw [List.length_append, List.length_map, List.length_map]
      omega
    · omega
theorem open_snoc (rows : List Row) (a r c : Str) : openNs (rows ++ [(a, r, none)]) c = if c = r then openNs rows c ++ [a] else openNs rows c := by
  unfold openNs
  rw [List.filter_append, List.map_append]
  by_cases h : c = r
  · rw [if_pos h, List.filter_cons_of_pos (by simp [h])]
    rfl
  · rw [if_neg h, List.filter_cons_of_neg (by simp; exact fun z => h z.symm)]
    simp
end NV
/-! SetDc -/
set_option Elab.async false
set_option linter.all false
set_option maxRecDepth 100000
set_option maxHeartbeats 600000
/-! name = {..: .. for ..} on one line, the name a local -/
namespace NV
open PySem PySem.Spec PyProof.Rows
open L2
section
variable {X : Cx}
theorem sw_dict {kx vx : Expr} {gs : List Comprehension} {scope : Scope} {pos py : Pos} {y : Str} {l : Nat} {env : Env} (fn : env.scope.kind = .function) (loc : env.scope.names.lookup y = some .local) (line : (py.line == pos.line) = true)
    (free : (scope.names.any fun (n, k) => n == y && (k == .local || k == .cell)) = false) : swapsWith (.DictComp kx vx gs scope pos) (some (.Name y py)) l env = pure true := by
  have k1 : env.kindOf y = some .local := loc
  have k2 : env.blockKind = .function := by
    unfold Env.blockKind
    rw [fn]
    rfl
  unfold swapsWith
  simp only [k1, k2, free, Expr.pos, line]
  rfl
theorem ps_setDc {i : Nat} {y : Str} {py : Pos} {kx vx tg iter : Expr} {ifs : List Expr} {scope : Scope} {own : List (Str × Nat)} {pos spos : Pos} {wi : TI} {g : TG} {tt : TT} {tk tv : TE} (calm : X.calm = true) (nd : X.N.Nodup) (at_ : X.N[i]? = some y) (loc : X.env.scope.names.lookup y = some .local)
    (sw : swapsWith (.DictComp kx vx [⟨tg, iter, ifs, 0⟩] scope pos) (some (.Name y py)) spos.line X.env = pure true) (hi : PI X tg iter wi) (ok : BlkOk X.N X.env.scope scope own)
    (rg : ∀ (s : Shared) (H : Hp) (C : Addr) (cl : List (Str × Addr)) (fp : List Addr), PG (X.blk s H scope (compEnvC scope cl C X.env) fp) tg g) (rt : ∀ (s : Shared) (H : Hp) (C : Addr) (cl : List (Str × Addr)) (fp : List Addr), PTs (X.blk s H scope (compEnvC scope cl C X.env) fp) ifs tt)
    (rk : ∀ (s : Shared) (H : Hp) (C : Addr) (cl : List (Str × Addr)) (fp : List Addr), PE (X.blk s H scope (compEnvC scope cl C X.env) fp) kx tk) (rv : ∀ (s : Shared) (H : Hp) (C : Addr) (cl : List (Str × Addr)) (fp : List Addr), PE (X.blk s H scope (compEnvC scope cl C X.env) fp) vx tv)
    (flat : ∀ x, foldedSetIterable iter X.env x = pure x := by intro _; rfl) : PS X (.Assign [.Name y py] (.DictComp kx vx [⟨tg, iter, ifs, 0⟩] scope pos) spos) (tAsg (tDc wi g tt tk tv (own.map (·.2))) (gName i)) := by
  constructor
  intro pins s σ H D I h
  rw [exec_Assign_Name_used _ _ _ _ sw]
  refine wpAny_bind (wpAny_standAt (wpAny_bind ?_))
  show wpAny _ X.A (do let _ ← comprehension (.DictComp kx vx [⟨tg, iter, ifs, 0⟩] scope pos) scope X.env (firstIterPos [⟨tg, iter, ifs, 0⟩] pos) newDict false (eval iter X.env) (some (assign (.Name y py) X.env))) _ _ s
  have h : tDc wi g tt tk tv (own.map (·.2)) σ H (fun x H1 => gName i x σ H1 D.nx) := h
  have made := dc_core (pos := pos) (pos' := firstIterPos [⟨tg, iter, ifs, 0⟩] pos) (use := some (assign (.Name y py) X.env)) (Qf := fun _ s' => SP X pins D .next s') calm nd I hi ok rg rt rk rv flat h ?_
  · exact wpAny_bind (thn made fun _ s' done => wpAny_pure (wpAny_pure done))
  · intro L C s' m H' J q names fp
    show wpAny _ _ (assign (.Name y py) X.env (.ref L)) _ _ _
    obtain ⟨p0, p1, p2, p3, p4, p5⟩ := fp
    refine wpAny_assign_Name (store_ok2 (v := V.ref L) J nd at_ (.inl loc) rfl ?_ (.inr loc))
    rintro s2 J2 ⟨a, same, ha⟩
    have apart : C ≠ a := ha.elim (fun z => z ▸ p1) fun z e => p4 y a z e.symm
    exact ⟨m, names.sameBut same apart, fun h3 same3 => ⟨_, H', J2.turned (t' := s2.toks) (fun b o hb e => (same3.2 b hb).trans e) p0 p1 p3 p4 p5, q⟩⟩
end
end NV
/-! V4 -/
set_option Elab.async false
set_option linter.all false
set_option maxRecDepth 100000
set_option maxHeartbeats 1000000
/-! the package's check_retracted, check_target, asked of what is right -/
namespace NV
open PySem PySem.Spec PyProof.Rows L2
open C8 (pss_cut pe_gc)
abbrev sCheckRetracted : Stmt := topS 36
theorem scCheckRetracted : FnScope ["log", "retracted", "entries", "entry_id", "entry"] ["log", "retracted"] (defScope sCheckRetracted) := ⟨rfl, rfl, rfl, by decide +kernel, rfl, by decide +kernel, by decide +kernel⟩
abbrev sCheckMayBeRetracted : Stmt := topS 37
theorem scCheckMayBeRetracted : FnScope ["entry"] ["entry"] (defScope sCheckMayBeRetracted) := ⟨rfl, rfl, rfl, by decide +kernel, rfl, by decide +kernel, by decide +kernel⟩
abbrev sCheckTarget : Stmt := topS 38
theorem scCheckTarget : FnScope ["log", "target", "position", "reader", "cell"] ["log", "target"] (defScope sCheckTarget) := ⟨rfl, rfl, rfl, by decide +kernel, rfl, by decide +kernel, by decide +kernel⟩
theorem for_names {K : PySem.W.Frag} {b : Bool} {a : Addr} {zs : List Str} {g : TG} {tb : TS} {D : Ends} {σ : L2.St} {H : Hp} (Pv : Nat → L2.St → Hp → Prop) (h0 : Pv 0 σ H) (hq : ∀ i σ H, Pv i σ H → Names K b H a zs)
    (turn : ∀ (i : Nat) (z : Str) (σ : L2.St) (H : Hp), zs[i]? = some z → Pv i σ H → g (.str z) σ H fun σ2 H2 => tb { D with nx := Pv (i + 1), ct := Pv (i + 1), bk := D.nx } σ2 H2) (last : ∀ σ H, Pv zs.length σ H → D.nx σ H) :
    ∃ W : Nat → Nat → L2.St → Hp → Prop, (∃ m, W 0 m σ H) ∧ ∀ i m σ H, W i m σ H → ((Jn K b a).stop i H ∧ D.nx σ H) ∨
      ((Jn K b a).go i H ∧ ∃ N : L2.St → Hp → Prop, (∀ σ' H', N σ' H' → ∃ m', m' < m ∧ W (i + 1) m' σ' H') ∧ ∀ v H', (Jn K b a).yld i H v H' → g v σ H' fun σ2 H2 => tb { D with nx := N, ct := N, bk := D.nx } σ2 H2) := by
  refine ⟨fun i m σ H => m + i = zs.length ∧ Pv i σ H, ⟨zs.length, rfl, h0⟩, ?_⟩
  rintro i m σ H ⟨hm, hP⟩
  have at_ := hq i σ H hP
  cases m with
  | zero =>
    obtain rfl : i = zs.length := by omega
    exact .inl ⟨at_.stop, last σ H hP⟩
  | succ m =>
    refine .inr ⟨at_.go (by omega), Pv (i + 1), fun σ' H' hP' => ⟨m, by omega, by omega, hP'⟩, ?_⟩
    intro v H' y
    obtain ⟨rfl, z, hz, rfl⟩ := at_.yld y
    exact turn i z σ _ hz hP
/-- a tuple is of the class tuple -/
theorem tyx_tup {K : PySem.W.Frag} {H : Hp} {a : Addr} {xs : List V} (h : SqT K H a xs) : TyX K H (.ref a) (.type "tuple") := by
  rcases h with (h | ⟨o, h⟩) | ⟨o, its, n, h, c, _⟩
  · exact .base (.tup h)
  · exact .fTuple h
  · exact .kTuple h c
/-- what may be retracted: names, those of the log being unsealed writes -/
def GoneOk (es : List Ent) (gone : List Str) : Prop := ∀ z ∈ gone, idB z = true ∧ ∀ e ∈ es, e.id = z → e.isW = true ∧ e.pr ≠ none
def spMayBe : Sp := fun vs H Q _ => ∃ (v : V) (e : Ent) (ex : List Addr), vs = [v] ∧ Rp ex H e.data v ∧ e.isW = true ∧ e.pr ≠ none ∧ Q .non H
def spRetr (K : PySem.W.Frag) : Sp := fun vs H Q _ => ∃ (v : V) (g : Addr) (es : List Ent) (gone : List Str) (b : Bool) (ex : List Addr), vs = [v, .ref g] ∧ Rp ex H (logD es) v ∧ Names K b H g gone ∧ es.length ≤ 100 ∧ GoneOk es gone ∧ ∀ H', Kp [] H H' → Q .non H'
/-- the entries by their names, as far as they are read -/
structure EntsAt (ex : List Addr) (d : Addr) (es : List Ent) (n : Nat) (H : Hp) : Prop where
  at_ : ∃ kvs : List (Key × V), H d = some (.dK kvs) ∧ kvs.length ≤ n ∧ ∀ (z : Str) (v : V), valV kvs (Sum.inr z : Key) = some v → ∃ e ∈ es, e.id = z ∧ Rp ex H e.data v
section
variable {P : Program} {w : World} {K : PySem.W.Frag} {mg : Str → Option Value} {base : Heap}
theorem ok_maybe (DCheckMayBeRetracted : Fn K mg "check_may_be_retracted" sCheckMayBeRetracted ["entry"]) (g0 : ∃ u, mg "KIND" = some u ∧ L2.RelV (.int 0) u) (g4 : ∃ u, mg "PRICE" = some u ∧ L2.RelV (.int 4) u) :
    FnOk P w K mg base CX0 1 DCheckMayBeRetracted.f DCheckMayBeRetracted.fd ["entry"] spMayBe := by
  refine DCheckMayBeRetracted.F.ok scCheckMayBeRetracted (fun vs H Q E h => ?_) (fun cdv A outer s H vs Q E hr h => ?_)
  · obtain ⟨v, e, ex, rfl, _⟩ := h
    rfl
  obtain ⟨v, e, ex, rfl, rv, hw, hp, q⟩ := h
  refine ⟨_, pss_cons (ps_if (pt_cmpR op_eq (pe_ix (ixtE K) (pv 0) (pe_gc (v := .int 0) rfl g0) (fun _ _ => rfl)) pe_str (nomark _))
      (pss_one (ps_dead _))
      pss_nil)
      (pss_one (ps_if (pt_cmpR op_isN (pe_ix (ixtE K) (pv 0) (pe_gc (v := .int 4) rfl g4) (fun _ _ => rfl)) pe_non (nomark _))
      (pss_one (ps_dead _))
      pss_nil)), ?_⟩
  obtain ⟨d0, ed0, hd0⟩ := ent_kind e
  obtain ⟨d4, ed4, _, hd4⟩ := ent_writes hw
  refine ⟨_, rfl, c_of (ent_ix rv ed0 hd0 rfl fun vk rk => ?_)⟩
  obtain rfl : vk = .str (if e.isW then "write" else "query") := rk
  refine ⟨rfl, _, rfl, ?_⟩
  rw [hw, show decide (V.str (if true = true then ("write" : Str) else "query") = V.str "query") = false from decide_eq_false (by intro h; exact absurd (V.str.inj h) (by decide))]
  refine iteF ⟨_, rfl, c_of (ent_ix rv ed4 hd4 rfl fun u ru => ?_)⟩
  cases hpr : e.pr with
  | none => exact absurd hpr hp
  | some i =>
    rw [hpr] at ru
    obtain rfl : u = .int i := ru
    exact ⟨rfl, _, rfl, iteF q⟩
theorem ok_retr (DCheckRetracted : Fn K mg "check_retracted" sCheckRetracted ["log", "retracted"]) (DIsId : Fn K mg "is_id" sIsId ["value"]) (DCheckMayBeRetracted : Fn K mg "check_may_be_retracted" sCheckMayBeRetracted ["entry"]) (b_isinstance : mg "isinstance" = none) (b_list : mg "list" = none) (b_tuple : mg "tuple" = none) (g1 : ∃ u, mg "ID" = some u ∧ L2.RelV (.int 1) u)
    (GIsId : FnOk P w K mg base CX0 1 DIsId.f DIsId.fd ["value"] (spIs (wordD 6 true))) (GMayBe : FnOk P w K mg base CX0 1 DCheckMayBeRetracted.f DCheckMayBeRetracted.fd ["entry"] spMayBe) :
    FnOk P w K mg base CX0 2 DCheckRetracted.f DCheckRetracted.fd ["log", "retracted"] (spRetr K) := by
  refine DCheckRetracted.F.ok scCheckRetracted (fun vs H Q E h => ?_) (fun cdv A outer s H vs Q E hr h => ?_)
  · obtain ⟨v, g, es, gone, b, ex, rfl, _⟩ := h
    rfl
  obtain ⟨v, g, es, gone, b, ex, rfl, rv, ng, h100, gok, q⟩ := h
  have hu := hu_of hr
  have line : (10000 : Nat) < sizeLine := by decide
  refine ⟨_, pss_cons (ps_if (pt_not (pt_val (pe_callB call_isiT (by rfl) b_isinstance (by decide +kernel) (pa_cons (pv 1) (pa_cons (pe_tup (pa_cons (pe_bltn (v := .ty "list") rfl b_list (by rfl) rfl) (pa_cons (pe_bltn (v := .ty "tuple") rfl b_tuple (by rfl) rfl) pa_nil))) pa_nil)))))
      (pss_one (ps_dead _))
      pss_nil)
      (pss_cons (ps_setDc (i := 2) (own := [("entry", 4)]) (g := gName 4) (tt := tYes) (by rfl) scCheckRetracted.nd rfl rfl (sw_dict rfl rfl rfl (by decide +kernel)) (piTupE K (pv 0)) (blkOk_by (N := ["log", "retracted", "entries", "entry_id", "entry"]) (sc := defScope sCheckRetracted) (by decide +kernel))
        (fun _ _ _ _ _ => pg_name (i := 4) scCheckRetracted.nd rfl (.inl rfl)) (fun _ _ _ _ _ => pts_nil) (fun _ _ _ _ _ => pe_ix (ixtE K) (pv 4) (pe_gc (v := .int 1) rfl g1) (fun _ _ => rfl)) (fun _ _ _ _ _ => pv 4))
      (pss_one (ps_for PassesOwn.never rfl (pi_seq K (pv 1)) (pg_name (i := 3) scCheckRetracted.nd rfl (.inl rfl))
      (pss_cons (ps_if (pt_not (pt_val (pe_fn DIsId GIsId hr (pa_cons (pv 3) pa_nil))))
      (pss_one (ps_dead _))
      pss_nil)
      (pss_one (ps_if (pt_cmp (pc_din hu (pv 3) (pv 2)))
      (pss_one (ps_expr (pe_fn DCheckMayBeRetracted GMayBe hr (pa_cons (pe_dget hu (pv 2) (pv 3) (fun _ _ => rfl)) pa_nil))))
      pss_nil)))))), ?_⟩
  obtain ⟨a, xs, rfl, na, ha, hx⟩ := rv
  have hl : es.length = xs.length := by
    have := hx.length
    rwa [List.length_map] at this
  refine ⟨_, rfl, by show 2 ≤ sizeLine; omega, fun tp ntp => ?_⟩
  have kt : Kp [] H (upd H tp (.tup [.ty "list", .ty "tuple"])) := Kp.laid ntp
  have ht : (upd H tp (.tup [.ty "list", .ty "tuple"])) tp = some (.tup [.ty "list", .ty "tuple"]) := upd_same
  have ng1 := ng.keep0 kt
  have ha1 := kt _ _ (by simp) ha
  have hx1 := RpAll.keep (kt.mono (ex' := ex) (by simp)) _ _ hx
  obtain ⟨H1, e1⟩ : ∃ H1, upd H tp (.tup [.ty "list", .ty "tuple"]) = H1 := ⟨_, rfl⟩
  rw [e1] at kt ht ng1 ha1 hx1 ⊢
  refine ⟨.ref g, tp, _, .type (if b then "list" else "tuple"), [.type "list", .type "tuple"], true, rfl, ht, .cons (.ty _) (.cons (.ty _) .nil), ?_, ?_, _, rfl, iteF ?_⟩
  · cases b with
    | true => exact .base (.lst ng1)
    | false => exact tyx_tup ng1
  · cases b <;> rfl
  refine ⟨_, rfl, a, rfl, ⟨xs, .inl (.inl ha1)⟩, fun D nD => ?_⟩
  have kD : Kp [] H1 (upd H1 D (.dK [])) := Kp.laid nD
  have naD : a ≠ D := fun z => by rw [z, nD] at ha1; cases ha1
  have hx2 : RpAll (D :: ex) (upd H1 D (.dK [])) (es.map Ent.data) xs := RpAll.keep (kD.mono (by simp)) _ _ (RpAll.apart nD _ _ hx1)
  refine dc_inv (J := Itt K a) xs.length (fun j H' => Kp [D] (upd H1 D (.dK [])) H' ∧ EntsAt (D :: ex) D es j H') ⟨Kp.refl, [], upd_same, Nat.zero_le _, fun z v h => by cases h⟩ ?_ (fun i H' hi ⟨k, _⟩ => ⟨xs, xs[i], .inl (.inl (k _ _ (by simpa using naD) (kD _ _ (by simp) ha1))), List.getElem?_eq_getElem hi⟩) ?_
  case refine_2 =>
    rintro i Hz x H2 hi ⟨k, kvs, e, l, gd⟩ ⟨rfl, hxx⟩
    have hxi := hxx xs (.inl (.inl (k _ _ (by simpa using naD) (kD _ _ (by simp) ha1))))
    obtain ⟨d, hd, rd⟩ := RpAll.back hx2 hxi
    obtain ⟨ee, hee, rfl⟩ : ∃ ee, es[i]? = some ee ∧ ee.data = d := by
      rw [List.getElem?_map] at hd
      cases h : es[i]? with
      | none => rw [h] at hd; cases hd
      | some ee => rw [h] at hd; exact ⟨ee, rfl, Option.some.inj hd⟩
    have r2 := Rp.keep (k.mono (ex' := D :: ex) (by simp)) _ _ rd
    obtain ⟨d1, ed1, hd1, _⟩ := ent_reads ee
    refine ⟨rfl, yes_on ?_⟩
    refine ⟨_, rfl, c_of (ent_ix r2 ed1 hd1 rfl fun vi ri => ?_)⟩
    obtain rfl : vi = .str ee.id := ri
    have kU : Kp (D :: ex) H2 (upd H2 D (.dK (putK kvs (Sum.inr ee.id) x))) := Kp.put (by simp)
    refine ⟨x, rfl, kvs, Sum.inr ee.id, rfl, e, by omega, k.trans (Kp.put (by simp)), _, upd_same, Nat.le_trans (length_putK _ _ _) (by omega), fun z v hv => ?_⟩
    rw [valV_put] at hv
    by_cases hz : (Sum.inr z : Key) = Sum.inr ee.id
    · rw [if_pos hz] at hv
      obtain rfl := Option.some.inj hv
      exact ⟨ee, List.mem_of_getElem? hee, (Sum.inr.inj hz).symm, Rp.keep kU _ _ r2⟩
    · rw [if_neg hz] at hv
      obtain ⟨e', he', hid, r'⟩ := gd z v hv
      exact ⟨e', he', hid, Rp.keep kU _ _ r'⟩
  case refine_1 =>
    rintro H2 ⟨k, kvs, e, l, gd⟩
    refine ⟨⟨xs, .inl (.inl (k _ _ (by simpa using naD) (kD _ _ (by simp) ha1))), Nat.le_refl _⟩, ?_⟩
    have k12 : Kp [] H H2 := kt.trans (Kp.drop ((kD.mono (by simp)).trans k) nD)
    have ng2 := ng.keep0 k12
    refine ⟨_, rfl, g, gone.map V.str, b, rfl, ng2.seq, for_names (K := K) (b := b) (a := g) (zs := gone) (fun i σ H' => ∃ c3 : Option V, σ = [some (.ref a), some (.ref g), some (.ref D), c3, none] ∧ Kp [] H2 H') ⟨none, rfl, Kp.refl⟩ ?_ ?_ ?_⟩
    · rintro i σ H' ⟨_, _, k'⟩
      exact ng2.keep0 k'
    · rintro i z σ H' hz ⟨c3, rfl, k'⟩
      obtain ⟨hid, hall⟩ := gok z (List.mem_of_getElem? hz)
      have hnice : niceD (.str z) = true := by
        obtain ⟨h1, h2⟩ := word_len hid
        simp only [niceD, Bool.and_eq_true, decide_eq_true_eq]
        exact ⟨by omega, h2⟩
      refine ⟨_, rfl, .str z, .str z, ex, rfl, rfl, hnice, _, rfl, ?_⟩
      rw [show wordD 6 true (.str z) = true from hid]
      refine iteF ?_
      refine ⟨_, rfl, _, rfl, D, _, rfl, DGet.k (k := Sum.inr z) (k' _ _ (by simp) e), ?_⟩
      cases hv : valV kvs (Sum.inr z : Key) with
      | none => exact ⟨_, rfl, iteF ⟨_, rfl, k'⟩⟩
      | some v =>
        obtain ⟨e', he', hid', r'⟩ := gd z v hv
        obtain ⟨hw, hp⟩ := hall e' he' hid'
        refine ⟨_, rfl, iteT ⟨_, rfl, _, rfl, D, v, rfl, by rw [← hv]; exact DGet.k (k := Sum.inr z) (k' _ _ (by simp) e), ?_⟩⟩
        exact ⟨v, e', D :: ex, rfl, Rp.keep (k'.mono (by simp)) _ _ r', hw, hp, _, rfl, k'⟩
    · rintro σ H' ⟨c3, rfl, k'⟩
      exact q H' (k12.trans k')
end
end NV
/-! V5 -/
set_option Elab.async false
set_option linter.all false
set_option maxRecDepth 100000
set_option maxHeartbeats 1000000
/-! the package's check_target, asked of a target -/
namespace NV
open PySem PySem.Spec PyProof.Rows L2
open C8 (pss_cut pe_gc)
/-- the target (z, c) of the log, at k -/
structure TargetOk (es : List Ent) (z c : Str) (k : Nat) : Prop where
  pos : PosOf es z k
  query : writeAt es k = false
  cell : cellB c = true
  reads : ∀ e, es[k]? = some e → c ∈ e.rs
theorem PosOf.le {es : List Ent} {z : Str} {k : Nat} (h : PosOf es z k) : k ≤ es.length := by
  rcases h with ⟨_, rfl⟩ | ⟨_, ⟨e, he, _⟩, _⟩
  · exact Nat.le_refl _
  · exact Nat.le_of_lt (List.getElem?_eq_some_iff.mp he).1
def spTarget : Sp := fun vs H Q _ => ∃ (v : V) (t : Addr) (es : List Ent) (ex : List Addr) (z c : Str) (k : Nat), vs = [v, .ref t] ∧ Rp ex H (logD es) v ∧ H t = some (.tup [.str z, .str c]) ∧ TargetOk es z c k ∧ ∀ H', Kp [] H H' → Q .non H'
section
variable {P : Program} {w : World} {K : PySem.W.Frag} {mg : Str → Option Value} {base : Heap}
theorem ok_target (DCheckTarget : Fn K mg "check_target" sCheckTarget ["log", "target"]) (DPositionIn : Fn K mg "position_in" sPositionIn ["log", "entry_id"]) (DIsWriteAt : Fn K mg "is_write_at" sIsWriteAt ["log", "position"]) (DCheckReads : Fn K mg "check_reads" sCheckReads ["log", "position", "cell"])
    (b_isinstance : mg "isinstance" = none) (b_tuple : mg "tuple" = none) (b_len : mg "len" = none)
    (GPositionIn : FnOk P w K mg base CX0 1 DPositionIn.f DPositionIn.fd ["log", "entry_id"] spPos) (GIsWriteAt : FnOk P w K mg base CX0 1 DIsWriteAt.f DIsWriteAt.fd ["log", "position"] spWriteAt) (GCheckReads : FnOk P w K mg base CX0 4 DCheckReads.f DCheckReads.fd ["log", "position", "cell"] spChecks) :
    FnOk P w K mg base CX0 5 DCheckTarget.f DCheckTarget.fd ["log", "target"] spTarget := by
  refine DCheckTarget.F.ok scCheckTarget (fun vs H Q E h => ?_) (fun cdv A outer s H vs Q E hr h => ?_)
  · obtain ⟨v, t, es, ex, z, c, k, rfl, _⟩ := h
    rfl
  obtain ⟨v, t, es, ex, z, c, k, rfl, rv, ht, ok, q⟩ := h
  refine ⟨_, pss_cons (ps_if (PW.pt (pw_or (pt_not (pt_val (pe_callB call_isi (by rfl) b_isinstance (by decide +kernel) (pa_cons (pv 1) (pa_cons (pe_bltn (v := .ty "tuple") rfl b_tuple (by rfl) rfl) pa_nil))))) (pw_or1 (pt_cmpR op_ne (pe_callB (lenE K) (by rfl) b_len (by decide +kernel) (pa_cons (pv 1) pa_nil)) pe_int (nomark _)))))
      (pss_one (ps_dead _))
      pss_nil)
      (pss_cons (ps_asg (pv 1) (pg_tupE K (by rfl) (pgs_cons (pg_name (i := 3) scCheckTarget.nd rfl (.inl rfl)) (pgs_cons (pg_name (i := 4) scCheckTarget.nd rfl (.inl rfl)) pgs_nil))))
      (pss_cons (ps_set (i := 2) scCheckTarget.nd rfl (.inl rfl) (pe_fn DPositionIn GPositionIn hr (pa_cons (pv 0) (pa_cons (pv 3) pa_nil))))
      (pss_cons (ps_if (pt_val (pe_fn DIsWriteAt GIsWriteAt hr (pa_cons (pv 0) (pa_cons (pv 2) pa_nil))))
      (pss_one (ps_dead _))
      pss_nil)
      (pss_one (ps_expr (pe_fn DCheckReads GCheckReads hr (pa_cons (pv 0) (pa_cons (pv 2) (pa_cons (pv 4) pa_nil))))))))), ?_⟩
  refine ⟨_, rfl, .ref t, .ty "tuple", .type "tuple", .type "tuple", true, rfl, .ty _, .base (.tup ht), rfl, _, rfl, iteF ?_⟩
  refine ⟨_, rfl, t, _, rfl, .inr (.inl (.inl ht)), rfl, _, rfl, ?_⟩
  rw [show (!decide (V.int (([V.str z, V.str c] : List V).length : Nat) = V.int 2)) = false from rfl]
  refine iteF ⟨_, rfl, t, _, rfl, .inl (.inl ht), rfl, _, _, rfl, _, _, rfl, rfl, ?_⟩
  refine ⟨_, rfl, _, rfl, v, es, ex, z, k, rfl, rv, ok.pos, fun H1 k1 => ?_⟩
  have rv1 := Rp.keep (k1.mono (ex' := ex) (by simp)) _ _ rv
  refine ⟨_, rfl, _, rfl, v, es, ex, k, rfl, rv1, _, rfl, ?_⟩
  rw [ok.query]
  refine iteF ⟨_, rfl, _, rfl, _, rfl, v, es, ex, k, c, rfl, rv1, ok.pos.le, ok.cell, ok.reads, q H1 k1⟩
end
end NV
/-! TupDc -/
set_option Elab.async false
set_option linter.all false
set_option maxRecDepth 100000
set_option maxHeartbeats 600000
/-! dicts with tuples as keys: one pair written out, and their pairs gone through -/
namespace NV
open PySem PySem.Spec PyProof.Rows
open L2
/-- the pairs of a locked dict whose keys are tuples: the key's own tuple, and the value, in a new one -/
def ItT (d : Addr) (o : Obj) (kvs : List (List L2.Key × V)) : It where
  go := fun i H => H d = some (.frz o (.dT kvs)) ∧ i < kvs.length
  yld := fun i H x H' => ∃ (T q : Addr) (k : List L2.Key) (v : V), kvs[i]? = some (k, v) ∧ x = .ref T ∧ H T = none ∧ H q = some (.tup (k.map kV)) ∧ H' = upd H T (.tup [.ref q, v])
  stop := fun i H => H d = some (.frz o (.dT kvs)) ∧ kvs.length ≤ i
section
variable {X : Cx} {pins : List (Addr × Obj)} {σ : L2.St} {H : Hp} {s : Shared} {d : Addr} {o : Obj}
/-- what stands at a locked dict of tuple keys -/
theorem lockedT {kvs : List (List L2.Key × V)} (I : Inv X pins σ H s) (h : H d = some (.frz o (.dT kvs))) :
    (d == sysModules) = false ∧ ∃ (es : Array DictEntry) (ep : Nat), DT.Raw s.heap d es ep ∧ o.data = .dict es ep ∧ es.size = kvs.length ∧
      ∀ (i : Nat) (k : List L2.Key) (v : V), kvs[i]? = some (k, v) → ∃ (en : DictEntry) (q : Addr), es[i]? = some en ∧ en.key = .ref q ∧ H q = some (.tup (k.map kV)) ∧ RelV v en.val := by
  obtain ⟨at_, _, hs, xs, pr, o2, es, ep, ho, hx, hdt, he, _⟩ := I.hok d _ h
  have ho2 := ho
  rw [at_] at ho
  obtain rfl := Option.some.inj ho
  refine ⟨hs, es, ep, ⟨_, ho2, hx, hdt⟩, hdt, ?_, fun i k v e => ?_⟩
  · have a := size_of_entries he
    have b := Paired.length pr
    omega
  · obtain ⟨b, hb, e1, e2, e3⟩ := paired_get pr e
    have q := entry_at he i
    rw [hb] at q
    exact ⟨_, b.2.1, q, rfl, e2, e3⟩
end
theorem turn_itemsT {P : Program} {w : World} {K : PySem.W.Frag} {d : Addr} {o : Obj} {es : Array DictEntry} {ep : Nat} {kvs : List (List L2.Key × V)} {elts : List Expr} {kk : Nat} {tpos : Pos} (it : Addr) (hod : o.data = .dict es ep) :
    Turn P w K (.Tuple elts kk tpos) (ItT d o kvs) [it] it (fun i h => ∃ a b, IsItemIter h it d i kvs.length ep a b) where
  mem := by simp
  obj := fun i h st b hb => by
    obtain rfl : b = it := by simpa using hb
    obtain ⟨_, _, e⟩ := st
    exact ⟨_, e, fun v z => nomatch z⟩
  keep := fun i h h' st k => let ⟨a, b, e⟩ := st; ⟨a, b, k it (by simp) _ e⟩
  item := by
    intro X hP hw hK hc i pins s σ H E I hf st hg
    subst hP hw hK
    obtain ⟨hd, hi⟩ := hg
    obtain ⟨hs, es2, ep2, raw, hdt, hsz, ent⟩ := lockedT I hd
    obtain ⟨rfl, rfl⟩ := dict_ep hod hdt
    obtain ⟨⟨k, v⟩, hkv⟩ : ∃ p, kvs[i]? = some p := ⟨_, List.getElem?_eq_getElem hi⟩
    obtain ⟨en, q, hen, hkey, hq, hv⟩ := ent i k v hkv
    obtain ⟨a, b, he⟩ := st
    rw [← hsz] at he
    have hi2 : i < es2.size := by omega
    have hee : es2[i] = en := by
      have z := hen
      rw [Array.getElem?_eq_getElem hi2] at z
      exact Option.some.inj z
    have below : it < s.heap.objs.size := Heap.lt_size he
    refine DT.nextI he raw hi2 fun h1 ho hT hz hk => ?_
    refine ⟨_, rfl, wpAny_letOwnedTupleGo_items (s := { s with heap := h1 }) ho fun h2 he2 sb => ?_⟩
    have hT2 := (sb.2 _ (Nat.ne_of_gt below)).trans hT
    rw [hee, hkey] at hT2
    have new : ObjOk X.prog X.w (upd H s.heap.objs.size (.tup [.ref q, v])) h2 s.heap.objs.size (.tup [.ref q, v]) :=
      ⟨by show 2 ≤ sizeLine; decide, [.ref q, en.val], .cons rfl (.cons hv .nil), ⟨_, hT2, rfl, _, rfl⟩⟩
    have J : Inv X pins σ (upd H s.heap.objs.size (.tup [.ref q, v])) { s with heap := h2 } :=
      I.turnedNew (t' := s.toks) (ch := [it]) (fun b ob hb e => (sb.2 b (by simpa using hb)).trans (hk b ob (by simpa using hb) e)) hf (Nat.le_refl _) new
    refine ⟨.ref s.heap.objs.size, _, J, rfl, ⟨_, q, k, v, hkv, rfl, I.hok.fresh (Nat.le_refl _), hq, rfl⟩, ⟨es2[i].key, es2[i].val, ?_⟩, fun b hb => ?_⟩
    · rw [← hsz]; exact he2
    · obtain rfl : b = it := by simpa using hb
      rw [upd_ne (Nat.ne_of_lt below)]
      exact (hf b (by simp)).1
  done := by
    intro X hP hw hK hc i pins s σ H E I hf st hg
    subst hP hw hK
    obtain ⟨hd, hi⟩ := hg
    obtain ⟨f0, f1, f2, f3, f4, f5⟩ := hf it (by simp)
    obtain ⟨hs, es2, ep2, raw, hdt, hsz, ent⟩ := lockedT I hd
    obtain ⟨rfl, rfl⟩ := dict_ep hod hdt
    obtain ⟨a, b, he⟩ := st
    rw [← hsz] at he
    exact DT.endI (I.ok.hd hc) he raw (by omega) fun h2 eb => ⟨rfl, I.turned (t' := s.toks) (fun b ob hb e => eb b ob hb e) f0 f1 f3 f4 f5⟩
  self := fun A i s Q E st h => let ⟨_, _, e⟩ := st; PySem.W.kcp_self e h
def iItemsT (td : TE) : TI := fun σ H R => td σ H fun x H1 => ∃ (d : Addr) (o : Obj) (kvs : List (List L2.Key × V)), x = .ref d ∧ H1 d = some (.frz o (.dT kvs)) ∧ R (ItT d o kvs) H1
theorem pi_itemsT {X : Cx} {e : Expr} {td : TE} {apos cpos : Pos} {elts : List Expr} {kk : Nat} {tpos : Pos} (he : PE X e td) (hbase : attributeBase e "items" X.env (eval e X.env) = eval e X.env := by rfl) (hline : (apos.endLine == cpos.line) = true := by rfl) :
    PI X (.Tuple elts kk tpos) (.Call (.Attribute e "items" apos) [] [] cpos) (iItemsT td) := by
  refine ⟨fun pins s σ H R I h => ?_⟩
  refine wpAny_Call_method (T := "dict") (id := "dict.items") hbase rfl hline F.plainAttrs_dict F.slot_dict_items F.type_dict_items (thn (he.run pins s σ H _ I h) fun u s1 ⟨x, H1, J, rx, d, o, kvs, ex, hd, q⟩ => ?_)
  subst ex
  obtain rfl : u = Value.ref d := rx
  obtain ⟨hs, es, ep, raw, hdt, hsz, ent⟩ := lockedT J hd
  obtain ⟨ob, hob, hx, hbd⟩ := id raw
  refine ⟨raw.typeIs, (fun b q => by cases q; exact ⟨ob, hob, hx.2.1⟩), ?_⟩
  have J2 : Inv X pins σ H1 { s1 with heap := s1.heap.push { cls := .type "dict_items", data := .fields #[.ref d] } } := J.kept (t' := s1.toks) fun b ob q => Heap.get?_push_of_some _ q
  have fin : wpAny (model X.prog X.w) X.A (pyIter (.ref s1.heap.objs.size)) (PIE X pins σ (.Tuple elts kk tpos) R) X.xe { s1 with heap := s1.heap.push { cls := .type "dict_items", data := .fields #[.ref d] } } := by
    refine DT.iterI (d := d) ⟨_, Heap.get?_push_size _ rfl, rfl, rfl⟩ (raw.push _) (pi_one (tk := s1.toks) J2 _ (turn_itemsT _ hdt) ⟨.none, .none, ?_⟩ q)
    rw [← hsz]
    exact Heap.get?_push_size _ rfl
  show wpAny _ _ (callWith cpos (.builtin "dict.items") [.ref d] [] []) _ X.xe s1
  exact method_meetsIn F.slot_dict_items F.entry_dict_items rfl (PySem.evalArgs_none ⟨rfl, raw.typeIs, F.args_dict_items_1 _, _, DT.meetsItems hs, raw, fin⟩)
/-- {(..): v}: one pair, its key a tuple; the dict stands empty while the pair is made -/
def tDisT (tk tv : TE) : TE := fun σ H Q => ∀ p, H p = none → tk σ (upd H p (.dT [])) fun x H1 => tv σ H1 fun y H2 => H2 p = some (.dT []) ∧ ∃ (b : Addr) (k : List L2.Key), x = .ref b ∧ H2 b = some (.tup (k.map kV)) ∧ Q (.ref p) (upd H2 p (.dT [(k, y)]))
theorem pe_disT {X : Cx} {pos : Pos} {k v : Expr} {tk tv : TE} (hu : X.A.units + 1 < cLine) (hk : PE X k tk) (hv : PE X v tv) : PE X (.Dict [some k] [v] pos) (tDisT tk tv) := by
  refine ⟨fun pins s σ H Q I q => ?_⟩
  have hn := I.hok.fresh (Nat.le_refl s.heap.objs.size)
  have I1 := I.laid (a := s.heap.objs.size) (o := .dT []) (h' := s.heap.push { cls := .type "dict", data := .dict #[] }) (t' := s.toks) (fun _ _ q => Heap.get?_push_of_some _ q) (Nat.le_refl _) (dt_empty s.heap I.big)
  have room : (tupleKind (mixKind X.prog X.w)).room X.A := by
    show X.A.units < cLine
    omega
  rw [arm_eval_Dict, zip_pairTrees [some k] [v] X.env pos rfl rfl, dictDisplay_pairs _ (by simp [pairTrees]) (by simp [pairTrees])]
  refine wpAny_bind (wpAny_standAt (wpAny_bind (wpAny_subDictH (knd := tupleKind (mixKind X.prog X.w)) room (by simp [pairTrees]) ?_)))
  refine pairTrees_cons_walk (thn (hk.run pins _ σ _ _ I1 (q _ hn)) fun ku s2 ⟨x, H1, I2, rx, q2⟩ => thn (hv.run pins _ σ _ _ I2 q2) fun vu s3 ⟨y, H2, I3, ry, e, b, kk, ex, eb, q3⟩ => pairTrees_nil_walk ?_)
  subst ex
  obtain rfl : ku = Value.ref b := rx
  obtain ⟨z, hd, xs0, r0, dd⟩ := dt_of I3.hok e
  cases r0
  refine ⟨[(kk, b, vu)], ⟨rfl, rfl, key_of I3.hok eb, trivial⟩, dd, fun h' tk dd' hs => wpAny_pure ⟨.ref s.heap.objs.size, _, ?_, rfl, q3⟩⟩
  obtain ⟨qo, es, ep, hq, h2, h3, h4, _, h5⟩ := dd'
  have eb2 : (upd H2 s.heap.objs.size (.dT [(kk, y)])) b = some (.tup (kk.map kV)) := by
    rw [upd_ne (ne_of eb e (fun z => nomatch z))]
    exact eb
  exact d_write I3 (by rw [e]; exact True.intro) hs ⟨qo, hq⟩ ⟨by show 1 ≤ sizeLine; decide, hd, _, .cons ⟨rfl, eb2, ry⟩ .nil, qo, es, ep, hq, h2, h3, h4, h5⟩
end NV
/-! V6 -/
set_option Elab.async false
set_option linter.all false
set_option maxRecDepth 100000
set_option maxHeartbeats 600000
/-! the rows of triples_of in its two dicts -/
namespace NV
open PySem PySem.Spec PyProof.Rows L2
open C8 (pss_cut pe_gc)
def optV : Option Str → V
  | none => .non
  | some z => .str z
def optD : Option Str → PyData
  | none => .none
  | some z => .str z
def rowKV (r : Row) : List L2.Key × V := ([Sum.inr r.1, Sum.inr r.2.1], optV r.2.2)
def rowD (r : Row) : PyData := .tuple [.str r.1, .str r.2.1, optD r.2.2]
theorem rowKV_key (r : Row) (a b : Str) : (rowKV r).1 = [Sum.inr a, Sum.inr b] ↔ keyR r = (a, b) := by
  unfold rowKV keyR
  constructor
  · intro h
    injection h with h1 h2
    injection h2 with h2 _
    rw [Sum.inr.inj h1, Sum.inr.inj h2]
  · intro h
    rw [Prod.mk.injEq] at h
    rw [h.1, h.2]
theorem put_row {rows : List Row} {a w id : Str} (h : (a, w) ∈ rows.map keyR) : putK (rows.map rowKV) [Sum.inr a, Sum.inr w] (.str id) = (setN w id [a] rows).map rowKV := by
  have hany : ((rows.map rowKV).any fun kv => decide (kv.1 = [Sum.inr a, Sum.inr w])) = true := by
    rw [List.any_eq_true]
    obtain ⟨r, hr, e⟩ := List.mem_map.mp h
    exact ⟨rowKV r, List.mem_map.mpr ⟨r, hr, rfl⟩, decide_eq_true ((rowKV_key r a w).2 e)⟩
  unfold putK
  rw [if_pos hany]
  unfold setN
  rw [List.map_map, List.map_map]
  refine List.map_congr_left fun r _ => ?_
  show (if (rowKV r).1 = _ then ((rowKV r).1, V.str id) else rowKV r) = rowKV (setR w id [a] r)
  by_cases hk : keyR r = (a, w)
  · rw [if_pos ((rowKV_key r a w).2 hk), setR_yes (congrArg Prod.snd hk) (by rw [show r.1 = a from congrArg Prod.fst hk]; simp)]
    rfl
  · rw [if_neg (fun z => hk ((rowKV_key r a w).1 z)), setR_no (fun z => hk ?_)]
    unfold keyR
    rw [z.1, List.mem_singleton.mp z.2]
/-! ### the dict of those who wait -/
structure WaitAt (Hi : Hp) (wd : Addr) (op : Str → List Str) (n : Nat) (H : Hp) : Prop where
  at_ : ∃ kvs : List (L2.Key × V), H wd = some (.dK kvs) ∧ kvs.length ≤ n ∧ (∀ c : Str, match valV kvs (Sum.inr c : L2.Key) with
    | some v => ∃ l, v = .ref l ∧ Hi l = none ∧ op c ≠ [] ∧ H l = some (.lst ((op c).map V.str))
    | none => op c = []) ∧ ∀ (c c' : Str) (l : Addr), valV kvs (Sum.inr c : L2.Key) = some (.ref l) → valV kvs (Sum.inr c' : L2.Key) = some (.ref l) → c = c'
theorem WaitAt.keep {Hi : Hp} {wd : Addr} {op : Str → List Str} {n : Nat} {H H' : Hp} (h : WaitAt Hi wd op n H) (k : Kp [] H H') : WaitAt Hi wd op n H' := by
  obtain ⟨kvs, e, l, q, d⟩ := h
  refine ⟨kvs, k _ _ (by simp) e, l, fun c => ?_, d⟩
  have := q c
  cases hv : valV kvs (Sum.inr c : L2.Key) with
  | none => rw [hv] at this; exact this
  | some v =>
    rw [hv] at this
    obtain ⟨l, e, h1, h2, h3⟩ := this
    exact ⟨l, e, h1, h2, k _ _ (by simp) h3⟩
/-- another dict, of tuples, changes -/
theorem WaitAt.off {Hi : Hp} {wd sd : Addr} {op : Str → List Str} {n : Nat} {H H' : Hp} (h : WaitAt Hi wd op n H) (k : Kp [sd] H H') {x : List (List L2.Key × V)} (hs : H sd = some (.dT x)) : WaitAt Hi wd op n H' := by
  obtain ⟨kvs, e, l, q, d⟩ := h
  refine ⟨kvs, k _ _ (fun z => by rw [List.mem_singleton.mp z, hs] at e; cases e) e, l, fun c => ?_, d⟩
  have := q c
  cases hv : valV kvs (Sum.inr c : L2.Key) with
  | none => rw [hv] at this; exact this
  | some v =>
    rw [hv] at this
    obtain ⟨l, e, h1, h2, h3⟩ := this
    exact ⟨l, e, h1, h2, k _ _ (fun z => by rw [List.mem_singleton.mp z, hs] at h3; cases h3) h3⟩
theorem WaitAt.same {Hi : Hp} {wd : Addr} {op op' : Str → List Str} {n m : Nat} {H : Hp} (h : WaitAt Hi wd op n H) (e : ∀ c, op c = op' c) (l : n ≤ m) : WaitAt Hi wd op' m H := by
  rw [show op' = op from funext fun c => (e c).symm]
  obtain ⟨kvs, e, l', q⟩ := h
  exact ⟨kvs, e, by omega, q⟩
theorem valV_drop (kvs : List (L2.Key × V)) (k j : L2.Key) : valV (dropK kvs k) j = if j = k then none else valV kvs j := by
  unfold dropK
  induction kvs with
  | nil => split <;> rfl
  | cons p l ih =>
    rw [List.filter_cons]
    by_cases h : p.1 = k
    · rw [if_neg (by simp [h])]
      rw [ih]
      by_cases hj : j = k
      · rw [if_pos hj, if_pos hj]
      · rw [if_neg hj, if_neg hj, valV_neg (fun z => hj (z.symm.trans h))]
    · rw [if_pos (by simp [h])]
      by_cases hp : p.1 = j
      · rw [valV_pos hp, valV_pos hp, if_neg (fun z => h (hp.trans z))]
      · rw [valV_neg hp, valV_neg hp, ih]
/-- a cell's waiters are taken out -/
theorem WaitAt.pop {Hi : Hp} {wd : Addr} {op : Str → List Str} {n : Nat} {H : Hp} (h : WaitAt Hi wd op n H) {w : Str} (hw : op w ≠ []) : ∃ (kvs : List (L2.Key × V)) (l : Addr), H wd = some (.dK kvs) ∧ valV kvs (Sum.inr w : L2.Key) = some (.ref l) ∧ Hi l = none ∧ H l = some (.lst ((op w).map V.str)) ∧
    WaitAt Hi wd (fun c => if c = w then [] else op c) n (upd H wd (.dK (dropK kvs (Sum.inr w)))) := by
  obtain ⟨kvs, e, ln, q, d⟩ := h
  have qw := q w
  cases hv : valV kvs (Sum.inr w : L2.Key) with
  | none => rw [hv] at qw; exact absurd qw hw
  | some v =>
    rw [hv] at qw
    obtain ⟨l, rfl, h1, h2, h3⟩ := qw
    refine ⟨kvs, l, e, hv, h1, h3, dropK kvs (Sum.inr w), upd_same, Nat.le_trans (dropK_le kvs _) ln, fun c => ?_, fun c c' l' => ?_⟩
    · rw [valV_drop]
      by_cases hc : c = w
      · rw [if_pos (by rw [hc]), if_pos hc]
      · rw [if_neg (fun z => hc (Sum.inr.inj z)), if_neg hc]
        have := q c
        cases hv2 : valV kvs (Sum.inr c : L2.Key) with
        | none => rw [hv2] at this; exact this
        | some v2 =>
          rw [hv2] at this
          obtain ⟨l2, e2, g1, g2, g3⟩ := this
          refine ⟨l2, e2, g1, g2, ?_⟩
          rw [upd_ne (fun z => by rw [z, e] at g3; cases g3)]
          exact g3
    · rw [valV_drop, valV_drop]
      split
      · intro z; cases z
      · split
        · intro _ z; cases z
        · exact d c c' l'
theorem WaitAt.in {Hi : Hp} {wd : Addr} {op : Str → List Str} {n : Nat} {H : Hp} (h : WaitAt Hi wd op n H) (c : Str) : ∃ o, DGet H wd (.str c) o ∧ o.isSome = decide (op c ≠ []) := by
  obtain ⟨kvs, e, ln, q, d⟩ := h
  refine ⟨_, DGet.k (k := Sum.inr c) e, ?_⟩
  have := q c
  cases hv : valV kvs (Sum.inr c : L2.Key) with
  | none => rw [hv] at this; simp [this]
  | some v =>
    rw [hv] at this
    obtain ⟨l, _, _, h2, _⟩ := this
    simp [h2]
theorem kp_none {H H' : Hp} {p : Addr} (k : Kp [] H H') (h : H' p = none) : H p = none := by
  cases e : H p with
  | none => rfl
  | some o => rw [k _ _ (by simp) e] at h; cases h
/-- a new object alone changes -/
theorem WaitAt.fresh {Hi : Hp} {wd C : Addr} {op : Str → List Str} {n : Nat} {H H' : Hp} (h : WaitAt Hi wd op n H) (k : Kp [C] H H') (hC : H C = none) : WaitAt Hi wd op n H' := h.keep (Kp.drop k hC)
/-- a further waiter: his cell's list stands already .. -/
theorem WaitAt.more {Hi : Hp} {wd : Addr} {op : Str → List Str} {n : Nat} {H : Hp} {kvs : List (L2.Key × V)} (h : WaitAt Hi wd op n H) (e : H wd = some (.dK kvs)) {r : Str} {v : V} (hv : valV kvs (Sum.inr r : L2.Key) = some v) (id : Str) :
    ∃ l, v = .ref l ∧ Hi l = none ∧ H l = some (.lst ((op r).map V.str)) ∧ WaitAt Hi wd (fun c => if c = r then op c ++ [id] else op c) (n + 1) (upd H l (.lst ((op r).map V.str ++ [V.str id]))) := by
  obtain ⟨kvs', e', ln, q, d⟩ := h
  rw [e] at e'
  cases e'
  have qr := q r
  rw [hv] at qr
  obtain ⟨l, rfl, h1, h2, h3⟩ := qr
  have nl : wd ≠ l := fun z => by rw [z, h3] at e; cases e
  refine ⟨l, rfl, h1, h3, kvs, by rw [upd_ne nl]; exact e, by omega, fun c => ?_, d⟩
  have qc := q c
  cases hc : valV kvs (Sum.inr c : L2.Key) with
  | none =>
    rw [hc] at qc
    have ne : c ≠ r := fun z => by rw [z, hv] at hc; cases hc
    dsimp only
    rw [if_neg ne]
    exact qc
  | some u =>
    rw [hc] at qc
    obtain ⟨l2, rfl, g1, g2, g3⟩ := qc
    by_cases hcr : c = r
    · subst hcr
      rw [hv] at hc
      cases hc
      refine ⟨l, rfl, h1, by rw [if_pos rfl]; simp, ?_⟩
      rw [upd_same, if_pos rfl, List.map_append]
      rfl
    · refine ⟨l2, rfl, g1, by rw [if_neg hcr]; exact g2, ?_⟩
      have nl2 : l2 ≠ l := fun z => hcr (d c r l (by rw [hc, z]) hv)
      rw [upd_ne nl2, if_neg hcr]
      exact g3
/-- .. or is new -/
theorem WaitAt.first {Hi : Hp} {wd L : Addr} {op : Str → List Str} {n : Nat} {H : Hp} {kvs : List (L2.Key × V)} (h : WaitAt Hi wd op n H) (e : H wd = some (.dK kvs)) {r : Str} (hv : valV kvs (Sum.inr r : L2.Key) = none) (hL : H L = some (.lst [])) (hiL : Hi L = none) (id : Str) :
    WaitAt Hi wd (fun c => if c = r then op c ++ [id] else op c) (n + 1) (upd (upd H wd (.dK (putK kvs (Sum.inr r) (.ref L)))) L (.lst [V.str id])) := by
  obtain ⟨kvs', e', ln, q, d⟩ := h
  rw [e] at e'
  cases e'
  have qr := q r
  rw [hv] at qr
  have qr : op r = [] := qr
  have nl : wd ≠ L := fun z => by rw [z, hL] at e; cases e
  have apart : ∀ (c : Str) (l2 : Addr), valV kvs (Sum.inr c : L2.Key) = some (.ref l2) → l2 ≠ L := fun c l2 hc z => by
    have qc := q c
    rw [hc] at qc
    obtain ⟨l3, e3, _, g2, g3⟩ := qc
    cases e3
    rw [z, hL] at g3
    cases ho : op c with
    | nil => exact g2 ho
    | cons x xs => rw [ho] at g3; cases g3
  refine ⟨putK kvs (Sum.inr r) (.ref L), by rw [upd_ne nl]; exact upd_same, Nat.le_trans (length_putK _ _ _) (by omega), fun c => ?_, fun c c' l2 => ?_⟩
  · rw [valV_put]
    by_cases hcr : c = r
    · rw [if_pos (by rw [hcr])]
      refine ⟨L, rfl, hiL, by rw [if_pos hcr]; simp, ?_⟩
      rw [upd_same, if_pos hcr, hcr, qr]
      rfl
    · rw [if_neg (fun z => hcr (Sum.inr.inj z))]
      have qc := q c
      cases hc : valV kvs (Sum.inr c : L2.Key) with
      | none =>
        rw [hc] at qc
        dsimp only
        rw [if_neg hcr]
        exact qc
      | some u =>
        rw [hc] at qc
        obtain ⟨l2, rfl, g1, g2, g3⟩ := qc
        refine ⟨l2, rfl, g1, by rw [if_neg hcr]; exact g2, ?_⟩
        rw [upd_ne (apart c l2 hc), upd_ne (fun z => by rw [z, e] at g3; cases g3), if_neg hcr]
        exact g3
  · rw [valV_put, valV_put]
    by_cases h1 : c = r
    · by_cases h2 : c' = r
      · intro _ _; rw [h1, h2]
      · rw [if_pos (by rw [h1]), if_neg (fun z => h2 (Sum.inr.inj z))]
        intro x y
        cases x
        exact absurd rfl (apart c' L y)
    · by_cases h2 : c' = r
      · rw [if_neg (fun z => h1 (Sum.inr.inj z)), if_pos (by rw [h2])]
        intro x y
        cases y
        exact absurd rfl (apart c L x)
      · rw [if_neg (fun z => h1 (Sum.inr.inj z)), if_neg (fun z => h2 (Sum.inr.inj z))]
        exact d c c' l2
/-- tuples stay -/
def KpT (H H' : Hp) : Prop := ∀ b xs, H b = some (.tup xs) → H' b = some (.tup xs)
theorem KpT.refl {H : Hp} : KpT H H := fun _ _ e => e
theorem KpT.trans {H H1 H2 : Hp} (a : KpT H H1) (b : KpT H1 H2) : KpT H H2 := fun c xs e => b c xs (a c xs e)
theorem KpT.of {H H' : Hp} (k : Kp [] H H') : KpT H H' := fun b xs e => k b _ (by simp) e
theorem KpT.put {H : Hp} {p : Addr} {o o' : HO} (h : H p = some o) (n : ∀ xs, o ≠ .tup xs) : KpT H (upd H p o') := fun b xs e => by
  rw [upd_ne (fun z => by rw [z, h] at e; exact n xs (Option.some.inj e))]
  exact e
end NV
/-! V7 -/
set_option Elab.async false
set_option linter.all false
set_option maxRecDepth 100000
set_option maxHeartbeats 1000000
/-! the package's triples_of -/
namespace NV
open PySem PySem.Spec PyProof.Rows L2
open C8 (pss_cut pe_gc)
abbrev sTriplesOf : Stmt := topS 41
theorem scTriplesOf : FnScope ["live", "target", "sources", "waiting", "entry", "reader", "cell", "found", "written", "readers", "name", "read", "source"] ["live", "target"] (defScope sTriplesOf) := ⟨rfl, rfl, rfl, by decide +kernel, rfl, by decide +kernel, by decide +kernel⟩
theorem range_pick {α : Type} (l : List α) (p : α → Bool) (f : α → V) (d : α) : ((List.range l.length).filter fun j => p (l.getD j d)).map (fun j => f (l.getD j d)) = (l.filter p).map f := by
  have e : (List.range l.length).map (fun j => l.getD j d) = l := by
    apply List.ext_getElem
    · simp
    · intro j h1 h2
      simp [List.getD_eq_getElem?_getD, List.getElem?_eq_getElem h2]
  conv => rhs; rw [← e]
  rw [List.filter_map, List.map_map]
  rfl
/-! ### the two dicts -/
structure TrAt (Hi : Hp) (SD WD : Addr) (rows : List Row) (n : Nat) (H : Hp) : Prop where
  kp : Kp [] Hi H
  src : H SD = some (.dT (rows.map rowKV))
  wai : WaitAt Hi WD (openNs rows) n H
theorem TrAt.keep {Hi : Hp} {SD WD : Addr} {rows : List Row} {n : Nat} {H H' : Hp} (h : TrAt Hi SD WD rows n H) (k : Kp [] H H') : TrAt Hi SD WD rows n H' := ⟨h.kp.trans k, k _ _ (by simp) h.src, h.wai.keep k⟩
theorem TrAt.ne {Hi : Hp} {SD WD : Addr} {rows : List Row} {n : Nat} {H : Hp} (h : TrAt Hi SD WD rows n H) : SD ≠ WD := fun z => by
  obtain ⟨kvs, e, _⟩ := h.wai.at_
  have := h.src
  rw [z, e] at this
  cases this
/-- a further row that waits, in the dict of sources -/
theorem put_new {rows : List Row} {a c : Str} (h : (a, c) ∉ rows.map keyR) : putK (rows.map rowKV) [Sum.inr a, Sum.inr c] V.non = (rows ++ [(a, c, none)]).map rowKV := by
  have nk : valV (rows.map rowKV) [Sum.inr a, Sum.inr c] = none := by
    rw [← Option.not_isSome_iff_eq_none, ← valV_any, List.any_eq_true]
    rintro ⟨x, hx, hd⟩
    obtain ⟨r, hr, rfl⟩ := List.mem_map.mp hx
    exact h (List.mem_map.mpr ⟨r, hr, (rowKV_key r a c).1 (of_decide_eq_true hd)⟩)
  rw [putK_new _ nk, List.map_append]
  rfl
def spTriples : Sp := fun vs H Q _ => ∃ (v : V) (t : Addr) (es : List Ent) (ex : List Addr) (z c : Str) (k : Nat), vs = [v, .ref t] ∧ Rp ex H (logD es) v ∧ H t = some (.tup [.str z, .str c]) ∧ (∀ e ∈ es, e.Ok) ∧ (es.map Ent.id).Nodup ∧ es.length ≤ 1000 ∧ PosOf es z k ∧ Live ex H ∧
  ∀ p H', Kp [] H H' → H p = none → Rp ex H' (.list ((backL (es.take k) [(z, c, none)]).map rowD)) (.ref p) → Q (.ref p) H'
theorem id_ne {e : Ent} (h : e.Ok) : e.id ≠ "" := fun z => by
  have : idB e.id = true := by
    cases e with
    | wr _ _ _ _ => exact h.1
    | qu _ _ => exact h.1
  rw [z] at this
  exact absurd this (by decide)
/-- the reader is none of those before -/
theorem pos_fresh {es : List Ent} {z : Str} {k : Nat} (ok : ∀ e ∈ es, e.Ok) (h : PosOf es z k) : z ∉ (es.take k).map Ent.id := fun y => by
  obtain ⟨e, he, hid⟩ := List.mem_map.mp y
  rcases h with ⟨rfl, _⟩ | ⟨_, _, no⟩
  · exact id_ne (ok e (List.mem_of_mem_take he)) hid
  · obtain ⟨i, hi⟩ := List.mem_iff_getElem?.mp he
    have hik : i < k := by
      have := (List.getElem?_eq_some_iff.mp hi).1
      rw [List.length_take] at this
      omega
    rw [List.getElem?_take_of_lt hik] at hi
    exact no i e hik hi hid
section
variable {P : Program} {w : World} {K : PySem.W.Frag} {mg : Str → Option Value} {base : Heap}
theorem ok_triples (DTriplesOf : Fn K mg "triples_of" sTriplesOf ["live", "target"]) (DPositionIn : Fn K mg "position_in" sPositionIn ["log", "entry_id"]) (DCellsWritten : Fn K mg "cells_written" sCellsWritten ["entry"]) (b_reversed : mg "reversed" = none)
    (g1 : ∃ u, mg "ID" = some u ∧ L2.RelV (.int 1) u) (g2 : ∃ u, mg "READS" = some u ∧ L2.RelV (.int 2) u)
    (GPositionIn : FnOk P w K mg base CX0 1 DPositionIn.f DPositionIn.fd ["log", "entry_id"] spPos) (GCellsWritten : FnOk P w K mg base CX0 1 DCellsWritten.f DCellsWritten.fd ["entry"] spCellsW) : FnOk P w K mg base CX0 2 DTriplesOf.f DTriplesOf.fd ["live", "target"] spTriples := by
  refine DTriplesOf.F.ok scTriplesOf (fun vs H Q E h => ?_) (fun cdv A outer s H vs Q E hr h => ?_)
  · obtain ⟨v, t, es, ex, z, c, k, rfl, _⟩ := h
    rfl
  obtain ⟨v, t, es, ex, z, c, k, rfl, rv, ht, ok, nd, hlen, pos, lv, q⟩ := h
  have hu := hu_of hr
  have line : (100000 : Nat) < sizeLine := by decide
  refine ⟨_, pss_cons (ps_asg (pv 1) (pg_tupE K (by rfl) (pgs_cons (pg_name (i := 5) scTriplesOf.nd rfl (.inl rfl)) (pgs_cons (pg_name (i := 6) scTriplesOf.nd rfl (.inl rfl)) pgs_nil))))
      (pss_cons (ps_set (i := 2) scTriplesOf.nd rfl (.inl rfl) (pe_disT hu (pe_tup (pa_cons (pv 5) (pa_cons (pv 6) pa_nil))) pe_non))
      (pss_cons (ps_set (i := 3) scTriplesOf.nd rfl (.inr rfl) (pe_disp (pps_cons (pv 6) (pe_lst (pa_cons (pv 5) pa_nil)) pps_nil) (by rfl) (by rfl) (fun z => by cases z) (by decide)))
      (pss_cons (ps_for PassesOwn.never rfl (RT.pi_revA (by rfl) b_reversed (pe_slice (sltAE K) (pv 0) po_none (po_some (pe_fn DPositionIn GPositionIn hr (pa_cons (pv 0) (pa_cons (pv 5) pa_nil)))))) (pg_name (i := 4) scTriplesOf.nd rfl (.inl rfl))
      (pss_cons (ps_setLc (i := 7) (own := [("written", 8)]) (g := gName 8) (by rfl) scTriplesOf.nd rfl rfl (sw_true rfl rfl rfl (by decide +kernel)) (piTupE K (pe_fn DCellsWritten GCellsWritten hr (pa_cons (pv 4) pa_nil))) (blkOk_by (N := ["live", "target", "sources", "waiting", "entry", "reader", "cell", "found", "written", "readers", "name", "read", "source"]) (sc := defScope sTriplesOf) (by decide +kernel)) (fun _ _ _ _ _ => (pg_name (i := 8) scTriplesOf.nd rfl (.inl rfl))) (fun _ _ _ _ _ => (pts_one (pt_cmp (pc_din hu (pv 8) (pv 3))))) (fun _ _ _ _ _ => (pv 8)))
      (pss_cons (ps_for PassesOwn.never rfl (piListE K (pv 7)) (pg_name (i := 8) scTriplesOf.nd rfl (.inl rfl))
      (pss_cons (ps_set (i := 9) scTriplesOf.nd rfl (.inl rfl) (pe_dpop1 (pv 3) (pv 8) ⟨rfl, rfl, rfl, rfl⟩))
      (pss_one (ps_for PassesOwn.never rfl (piListE K (pv 9)) (pg_name (i := 10) scTriplesOf.nd rfl (.inl rfl))
      (pss_one (ps_dput hu (pv 2) (pe_tup (pa_cons (pv 10) (pa_cons (pv 8) pa_nil))) (pe_ix (ixtE K) (pv 4) (pe_gc (v := .int 1) rfl g1) (fun _ _ => rfl)) rfl))))))
      (pss_one (ps_if (pt_truth (pv 7) (by intro _; rfl))
      (pss_one (ps_for PassesOwn.never rfl (piTupE K (pe_ix (ixtE K) (pv 4) (pe_gc (v := .int 2) rfl g2) (fun _ _ => rfl))) (pg_name (i := 11) scTriplesOf.nd rfl (.inl rfl))
      (pss_cons (ps_dput hu (pv 2) (pe_tup (pa_cons (pe_ix (ixtE K) (pv 4) (pe_gc (v := .int 1) rfl g1) (fun _ _ => rfl)) (pa_cons (pv 11) pa_nil))) pe_non rfl)
      (pss_one (ps_expr (bmE K PySem.F.plainAttrs_list PySem.F.slot_list_append PySem.F.type_list_append mt_append (pe_dsetd (pv 3) (pv 11) (pe_lst pa_nil) ⟨rfl, rfl, rfl, rfl⟩) (pa_cons (pe_ix (ixtE K) (pv 4) (pe_gc (v := .int 1) rfl g1) (fun _ _ => rfl)) pa_nil)))))))
      pss_nil)))))
      (pss_one (ps_ret (pe_lock (pe_lc (own := [("name", 10), ("read", 11), ("source", 12)]) (g := gTup K 2 (gCons (gTup K 2 (gCons (gName 10) (gCons (gName 11) gNil))) (gCons (gName 12) gNil))) (tt := tYes) (by rfl) scTriplesOf.nd (pi_itemsT (pv 2)) (blkOk_by (N := ["live", "target", "sources", "waiting", "entry", "reader", "cell", "found", "written", "readers", "name", "read", "source"]) (sc := defScope sTriplesOf) (by decide +kernel)) (fun _ _ _ _ _ => (pg_tupE K (by rfl) (pgs_cons (pg_tupE K (by rfl) (pgs_cons (pg_name (i := 10) scTriplesOf.nd rfl (.inl rfl)) (pgs_cons (pg_name (i := 11) scTriplesOf.nd rfl (.inl rfl)) pgs_nil))) (pgs_cons (pg_name (i := 12) scTriplesOf.nd rfl (.inl rfl)) pgs_nil)))) (fun _ _ _ _ _ => pts_nil) (fun _ _ _ _ _ => (pe_tup (pa_cons (pv 10) (pa_cons (pv 11) (pa_cons (pv 12) pa_nil)))))))))))), ?_⟩
  refine ⟨_, rfl, t, _, rfl, .inl (.inl ht), rfl, _, _, rfl, _, _, rfl, rfl, ?_⟩
  -- the two dicts
  intro SD nSD
  have kS : Kp [] H (upd H SD (.dT [])) := Kp.laid nSD
  refine ⟨_, rfl, _, rfl, (by show 2 ≤ sizeLine; decide), fun T1 nT1 => ?_⟩
  have nST : SD ≠ T1 := fun z => by rw [← z, upd_same] at nT1; cases nT1
  refine ⟨by rw [upd_ne nST]; exact upd_same, T1, [Sum.inr z, Sum.inr c], rfl, upd_same, ?_⟩
  have kT1 : Kp [] (upd H SD (.dT [])) (upd (upd H SD (.dT [])) T1 (.tup [.str z, .str c])) := Kp.laid nT1
  have k1 : Kp [] H (upd (upd (upd H SD (.dT [])) T1 (.tup [.str z, .str c])) SD (.dT [([Sum.inr z, Sum.inr c], .non)])) := Kp.drop (((kS.trans kT1).mono (by simp)).trans (Kp.put (ex := [SD]) (by simp))) nSD
  have s1 : (upd (upd (upd H SD (.dT [])) T1 (.tup [.str z, .str c])) SD (.dT [([Sum.inr z, Sum.inr c], .non)])) SD = some (.dT ([((z, c, none) : Row)].map rowKV)) := upd_same
  obtain ⟨H1, e1⟩ : ∃ H1, upd (upd (upd H SD (.dT [])) T1 (.tup [.str z, .str c])) SD (.dT [([Sum.inr z, Sum.inr c], .non)]) = H1 := ⟨_, rfl⟩
  rw [e1] at k1 s1
  rw [e1]
  intro WD nWD
  refine ⟨_, rfl, _, rfl, (by show 1 ≤ sizeLine; decide), fun l nl => ?_⟩
  have nWl : WD ≠ l := fun z => by rw [← z, upd_same] at nl; cases nl
  refine ⟨by rw [upd_ne nWl]; exact upd_same, [(Sum.inr c, .ref l)], rfl, (by show 1 ≤ 15; decide), ?_⟩
  have hW0 : H WD = none := kp_none k1 nWD
  have kW : Kp [] H1 (upd H1 WD (.dK [])) := Kp.laid nWD
  have hl1 : H1 l = none := kp_none kW nl
  have hl0 : H l = none := kp_none k1 hl1
  have nSW : SD ≠ WD := fun z => by rw [← z, s1] at nWD; cases nWD
  have nSl : SD ≠ l := fun z => by rw [← z, s1] at hl1; cases hl1
  have kl : Kp [] (upd H1 WD (.dK [])) (upd (upd H1 WD (.dK [])) l (.lst [.str z])) := Kp.laid nl
  have tr0 : TrAt H SD WD [(z, c, none)] 1 (upd (upd (upd H1 WD (.dK [])) l (.lst [.str z])) WD (.dK (mergeK [] [(Sum.inr c, .ref l)]))) := by
    refine ⟨k1.trans (Kp.drop (((kW.trans kl).mono (by simp)).trans (Kp.put (ex := [WD]) (by simp))) nWD), ?_, ?_⟩
    · rw [upd_ne nSW, upd_ne nSl, upd_ne nSW]
      exact s1
    · refine ⟨[(Sum.inr c, .ref l)], upd_same, Nat.le_refl _, fun d => ?_, fun a b l' ha hb => ?_⟩
      · have ho : openNs [(z, c, none)] d = if d = c then [z] else [] := by
          unfold openNs
          by_cases h : d = c
          · rw [if_pos h, List.filter_cons_of_pos (by simp [h])]; rfl
          · rw [if_neg h, List.filter_cons_of_neg (by simp; exact fun y => h y.symm)]; rfl
        by_cases h : d = c
        · rw [valV_pos (by rw [h])]
          rw [if_pos h] at ho
          refine ⟨l, rfl, hl0, by rw [ho]; simp, ?_⟩
          rw [upd_ne nWl.symm, upd_same, ho]
          rfl
        · rw [valV_neg (fun y => h (Sum.inr.inj y).symm)]
          rw [if_neg h] at ho
          exact ho
      · have one : ∀ d, valV [((Sum.inr c : L2.Key), V.ref l)] (Sum.inr d : L2.Key) = some (.ref l') → d = c := fun d hd => by
          by_cases h : (Sum.inr c : L2.Key) = Sum.inr d
          · exact (Sum.inr.inj h).symm
          · rw [valV_neg h] at hd; cases hd
        rw [one a ha, one b hb]
  obtain ⟨H2, e2⟩ : ∃ H2, upd (upd (upd H1 WD (.dK [])) l (.lst [.str z])) WD (.dK (mergeK [] [(Sum.inr c, .ref l)])) = H2 := ⟨_, rfl⟩
  rw [e2] at tr0
  rw [e2]
  -- the part of the log
  obtain ⟨a, xs, rfl, na, ha, hx⟩ := rv
  have hl : es.length = xs.length := by
    have := hx.length
    rwa [List.length_map] at this
  refine ⟨_, rfl, _, rfl, _, rfl, .ref a, es, ex, z, k, rfl, Rp.keep (tr0.kp.mono (by simp)) _ _ ⟨a, xs, rfl, na, ha, hx⟩, pos, fun H3 k3 => ⟨_, rfl, slA (k3 _ _ (by simp) (tr0.kp _ _ (by simp) ha)) na (fun p np => ((lv.kp0 tr0.kp).kp0 k3).fresh np) fun p H4 k4 e4 n4 => ?_⟩⟩
  rw [cut_to] at e4
  have tr4 := (tr0.keep k3).keep k4
  have hx1 : RpAll ex H ((es.take k).map Ent.data) (xs.take k) := by
    rw [List.map_take]
    exact (RpAll.cutT k hx).1
  have okf : ∀ e ∈ es.take k, e.Ok := fun e he => ok e (List.mem_of_mem_take he)
  have ndf : ((es.take k).map Ent.id).Nodup := nd.sublist ((List.take_sublist _ _).map _)
  have nzf : z ∉ (es.take k).map Ent.id := pos_fresh ok pos
  have flen : (es.take k).length ≤ 1000 := by rw [List.length_take]; omega
  generalize es.take k = fs at hx1 okf ndf nzf flen q
  generalize xs.take k = ys at e4 hx1
  have hfl : fs.length = ys.length := by
    have := hx1.length
    rwa [List.length_map] at this
  let Inv_ : Nat → L2.St → Hp → Prop := fun j σ H' => ∃ c4 c7 c8 c9 c10 c11 : Option V, σ = [some (.ref a), some (.ref t), some (.ref SD), some (.ref WD), c4, some (.str z), some (.str c), c7, c8, c9, c10, c11, none] ∧ TrAt H SD WD (backL (fs.drop (fs.length - j)) [(z, c, none)]) (1 + 3 * j) H' ∧ KpT H4 H'
  refine ⟨p, ys, rfl, .inr ⟨.inl (.inl e4), ?_⟩⟩
  refine ⟨fun j m σ H' => m = ys.length - j ∧ j ≤ ys.length ∧ Inv_ j σ H', ⟨ys.length, by simp, Nat.zero_le _, none, none, none, none, none, none, rfl, by rw [Nat.sub_zero, List.drop_length]; exact tr4, KpT.refl⟩, ?_⟩
  rintro j m σ H5 ⟨rfl, hj, c4, c7, c8, c9, c10, c11, rfl, tr5, kt5⟩
  have aT : ∀ {H' : Hp}, KpT H4 H' → SqT K H' p ys := fun k => .inl (.inl (k _ _ e4))
  rcases Nat.lt_or_ge j ys.length with lt | ge
  · have hix : ys.length - 1 - j < ys.length := by omega
    refine .inr ⟨⟨lt, ys, _, aT kt5, List.getElem?_eq_getElem hix⟩, Inv_ (j + 1), fun σ' H' i => ⟨ys.length - (j + 1), by omega, rfl, by omega, i⟩, ?_⟩
    rintro x H6 ⟨rfl, hx6⟩
    have hx6 := hx6 ys (aT kt5)
    obtain ⟨d, hd, rd⟩ := RpAll.back hx1 hx6
    obtain ⟨e, he, rfl⟩ : ∃ e, fs[ys.length - 1 - j]? = some e ∧ e.data = d := by
      rw [List.getElem?_map] at hd
      cases h : fs[ys.length - 1 - j]? with
      | none => rw [h] at hd; cases hd
      | some e => rw [h] at hd; exact ⟨e, rfl, Option.some.inj hd⟩
    have oke := okf e (List.mem_of_getElem? he)
    have hdrop : fs.drop (fs.length - (j + 1)) = e :: fs.drop (fs.length - j) := by
      have h1 : fs.length - (j + 1) = ys.length - 1 - j := by omega
      have h2 : fs.length - j = ys.length - 1 - j + 1 := by omega
      rw [h1, h2, List.drop_eq_getElem_cons (by omega)]
      congr 1
      exact (List.getElem?_eq_some_iff.mp he).2
    have rest_sub : List.Sublist (fs.drop (fs.length - j)) fs := List.drop_sublist _ _
    have nde : ((e :: fs.drop (fs.length - j)).map Ent.id).Nodup := by
      rw [← hdrop]
      exact ndf.sublist ((List.drop_sublist _ _).map _)
    have nze : z ∉ (e :: fs.drop (fs.length - j)).map Ent.id := by
      rw [← hdrop]
      exact fun y => nzf (((List.drop_sublist _ _).map Ent.id).subset y)
    have oke2 : ∀ u ∈ fs.drop (fs.length - j), u.Ok := fun u hu => okf u (rest_sub.subset hu)
    have hrl : (fs.drop (fs.length - j)).length = j := by rw [List.length_drop]; omega
    generalize hrest : fs.drop (fs.length - j) = rest at tr5 hdrop nde nze oke2 hrl
    have ndk : ((backL rest [(z, c, none)]).map keyR).Nodup := back_nd (by rw [List.map_cons, List.nodup_cons] at nde; exact nde.2) (fun y => nze (List.mem_cons_of_mem _ y)) fun u hu => (oke2 u hu).rs.1
    have hrn : (backL rest [(z, c, none)]).length ≤ 1 + 3 * j := by
      have := back_len (row := (z, c, none)) (l := rest) fun u hu => (oke2 u hu).rs.2
      omega
    have hnm : ∀ r ∈ backL rest [(z, c, none)], r.1 ≠ e.id := fun r hrr y => by
      rcases back_names r hrr with y2 | y2
      · exact nze (by rw [show z = r.1 from y2.symm, y]; exact List.mem_cons_self)
      · rw [List.map_cons, List.nodup_cons] at nde
        exact nde.1 (by rw [← y]; exact y2)
    have hback : backL (fs.drop (fs.length - (j + 1))) [(z, c, none)] = stepT e (backL rest [(z, c, none)]) := by rw [hdrop]; rfl
    generalize hrows : backL rest [(z, c, none)] = rows at tr5 ndk hrn hnm hback
    have re6 : Rp ex H6 e.data x := Rp.keep (tr5.kp.mono (by simp)) _ _ rd
    obtain ⟨d1, ed1, hd1, hd2⟩ := ent_reads e
    refine ⟨_, rfl, x, e, ex, rfl, re6, fun p7 H7 k7 e7 => ⟨p7, rfl, ⟨_, .inl (.inl e7)⟩, fun C nC => ?_⟩⟩
    have tr7 := tr5.keep k7
    have hwl : (e.ws.map V.str).length = e.ws.length := List.length_map ..
    have hw3 := oke.ws.2
    refine lc_growT (fun i => decide (openNs rows (e.ws.getD i "") ≠ [])) (fun i => V.str (e.ws.getD i "")) (.inl (.inl e7)) nC (by omega) (fun i y H8 Q8 hy k8 q8 => ?_) (fun i y H8 Q8 hy hp k8 q8 => ?_) fun H8 k8 e8 => ?_
    · have hyi : y = .str (e.ws.getD i "") := by
        rw [List.getElem?_map] at hy
        cases hi : e.ws[i]? with
        | none => rw [hi] at hy; cases hy
        | some cc => rw [hi] at hy; rw [List.getD_eq_getElem?_getD, hi]; exact (Option.some.inj hy).symm
      subst hyi
      obtain ⟨o, dg, ho⟩ := (tr7.wai.fresh k8 nC).in (e.ws.getD i "")
      refine ⟨_, rfl, _, rfl, WD, o, rfl, dg, ?_⟩
      rw [ho]
      exact ⟨_, rfl, q8 _ Kp.refl⟩
    · refine ⟨_, rfl, ?_⟩
      have hyi : y = .str (e.ws.getD i "") := by
        rw [List.getElem?_map] at hy
        cases hi : e.ws[i]? with
        | none => rw [hi] at hy; cases hy
        | some cc => rw [hi] at hy; rw [List.getD_eq_getElem?_getD, hi]; exact (Option.some.inj hy).symm
      rw [hyi]
      exact q8 _ Kp.refl
    -- the cells found
    rw [hwl] at e8
    rw [range_pick e.ws (fun cc => decide (openNs rows cc ≠ [])) V.str ""] at e8
    have tr8 := tr7.keep (Kp.drop k8 nC)
    have kt8 : KpT H4 H8 := (kt5.trans (KpT.of k7)).trans (KpT.of (Kp.drop k8 nC))
    have hws : ∀ cc, cc ∈ e.ws.filter (fun cc => decide (openNs rows cc ≠ [])) ↔ cc ∈ e.ws ∧ openNs rows cc ≠ [] := fun cc => by
      rw [List.mem_filter, decide_eq_true_iff]
    have ndw : (e.ws.filter (fun cc => decide (openNs rows cc ≠ []))).Nodup := oke.ws.1.sublist List.filter_sublist
    have lws : (e.ws.filter (fun cc => decide (openNs rows cc ≠ []))).length ≤ 3 := Nat.le_trans (List.length_filter_le _ _) hw3
    rw [step_close hws] at hback
    generalize e.ws.filter (fun cc => decide (openNs rows cc ≠ [])) = ws at e8 hws ndw lws hback
    have nCS : C ≠ SD := fun y => by rw [y, tr8.src] at e8; cases e8
    have nCW : C ≠ WD := fun y => by
      obtain ⟨kvs, ek, _⟩ := tr8.wai.at_
      rw [y, ek] at e8
      cases e8
    have wOf : ∀ {i : Nat} {y : V}, (ws.map V.str)[i]? = some y → ∃ w, ws[i]? = some w ∧ y = .str w := fun {i y} hy => by
      rw [List.getElem?_map] at hy
      cases hi : ws[i]? with
      | none => rw [hi] at hy; cases hy
      | some cc => rw [hi] at hy; exact ⟨cc, rfl, (Option.some.inj hy).symm⟩
    refine ⟨_, rfl, C, rfl, ⟨_, .inl (.inl e8)⟩, for_list (K := K) (a := C) (xs := ws.map V.str) (fun i σ H' => ∃ c8 c9 c10 : Option V, σ = [some (.ref a), some (.ref t), some (.ref SD), some (.ref WD), some x, some (.str z), some (.str c), some (.ref C), c8, c9, c10, c11, none] ∧ TrAt H SD WD (closeCs (ws.take i) e.id rows) (1 + 3 * j) H' ∧ KpT H8 H' ∧ H' C = some (.lst (ws.map V.str)))
      ⟨_, _, _, rfl, by rw [List.take_zero, close_nil]; exact tr8, KpT.refl, e8⟩ (fun i σ H' _ ⟨_, _, _, _, _, _, h⟩ => .inl (.inl h)) ?_ ?_⟩
    · rintro i y σ H9 hy ⟨c8, c9, c10, rfl, tr9, kt9, hC9⟩
      obtain ⟨w, hw, rfl⟩ := wOf hy
      have hwn : w ∉ ws.take i := nodup_take ndw hw
      have hopw : openNs (closeCs (ws.take i) e.id rows) w = openNs rows w := by rw [open_close, if_neg hwn]
      have hne : openNs (closeCs (ws.take i) e.id rows) w ≠ [] := by
        rw [hopw]
        exact ((hws w).1 (List.mem_of_getElem? hw)).2
      obtain ⟨kvs, lw, ek, hv, hlw0, hlw, wa⟩ := tr9.wai.pop hne
      refine ⟨_, rfl, WD, rfl, .inl ⟨kvs, .inl ek⟩, _, rfl, kvs, Sum.inr w, .ref lw, ek, rfl, hv, ?_⟩
      have nlW : lw ≠ WD := fun y => by rw [y, ek] at hlw; cases hlw
      have nlS : lw ≠ SD := fun y => by rw [y, tr9.src] at hlw; cases hlw
      have nSW9 := tr9.ne
      have kp10 : Kp [] H (upd H9 WD (.dK (dropK kvs (Sum.inr w)))) := Kp.drop ((tr9.kp.mono (by simp)).trans (Kp.put (ex := [WD]) (by simp))) hW0
      have src10 : (upd H9 WD (.dK (dropK kvs (Sum.inr w)))) SD = some (.dT ((setN w e.id [] (closeCs (ws.take i) e.id rows)).map rowKV)) := by
        rw [upd_ne nSW9, set_nil]
        exact tr9.src
      have hl10 : (upd H9 WD (.dK (dropK kvs (Sum.inr w)))) lw = some (.lst ((openNs (closeCs (ws.take i) e.id rows) w).map V.str)) := by rw [upd_ne nlW]; exact hlw
      have hC10 : (upd H9 WD (.dK (dropK kvs (Sum.inr w)))) C = some (.lst (ws.map V.str)) := by rw [upd_ne nCW]; exact hC9
      have kt10 : KpT H8 (upd H9 WD (.dK (dropK kvs (Sum.inr w)))) := kt9.trans (KpT.put ek (fun _ q => by cases q))
      generalize upd H9 WD (.dK (dropK kvs (Sum.inr w))) = H10 at wa kp10 src10 hl10 hC10 kt10 ⊢
      have hkeys : ((closeCs (ws.take i) e.id rows).map keyR) = rows.map keyR := keys_close _ _ _
      have hset := set_open ndk (ws.take i) w e.id hwn
      have hrl9 : (closeCs (ws.take i) e.id rows).length = rows.length := by unfold closeCs; exact List.length_map ..
      have hmemo : ∀ nm ∈ openNs (closeCs (ws.take i) e.id rows) w, (nm, w) ∈ (closeCs (ws.take i) e.id rows).map keyR := fun nm hn => List.mem_map.mpr ⟨_, mem_open.1 hn, rfl⟩
      have hopc : ∀ cc, (if cc = w then [] else openNs (closeCs (ws.take i) e.id rows) cc) = openNs (closeCs (ws.take (i + 1)) e.id rows) cc := fun cc => by
        rw [List.take_add_one, hw, open_close, open_close]
        by_cases h1 : cc = w
        · rw [if_pos h1, if_pos (by rw [h1]; simp)]
        · rw [if_neg h1]
          by_cases h2 : cc ∈ ws.take i
          · rw [if_pos h2, if_pos (List.mem_append_left _ h2)]
          · rw [if_neg h2, if_neg (fun y => (List.mem_append.mp y).elim h2 fun y2 => h1 (by simpa using y2))]
      generalize hnames : openNs (closeCs (ws.take i) e.id rows) w = names at hl10 hset hmemo
      generalize hrw : closeCs (ws.take i) e.id rows = rw9 at src10 hkeys hset hrl9 hmemo
      refine ⟨_, rfl, lw, rfl, ⟨_, .inl (.inl hl10)⟩, for_list (K := K) (a := lw) (xs := names.map V.str) (fun i' σ H' => ∃ c10 : Option V, σ = [some (.ref a), some (.ref t), some (.ref SD), some (.ref WD), some x, some (.str z), some (.str c), some (.ref C), some (.str w), some (.ref lw), c10, c11, none] ∧ Kp [] H H' ∧ H' SD = some (.dT ((setN w e.id (names.take i') rw9).map rowKV)) ∧ WaitAt H WD (fun cc => if cc = w then [] else openNs (closeCs (ws.take i) e.id rows) cc) (1 + 3 * j) H' ∧ H' lw = some (.lst (names.map V.str)) ∧ H' C = some (.lst (ws.map V.str)) ∧ KpT H8 H')
        ⟨_, rfl, kp10, by rw [List.take_zero]; exact src10, by rw [hrw]; rw [hrw] at wa; exact wa, hl10, hC10, kt10⟩ (fun i' σ H' _ ⟨_, _, _, _, _, h, _⟩ => .inl (.inl h)) ?_ ?_⟩
      · rintro i' y σ H11 hy ⟨c10', rfl, kp11, src11, wa11, hl11, hC11, kt11⟩
        obtain ⟨nm, hnm', rfl⟩ : ∃ nm, names[i']? = some nm ∧ y = .str nm := by
          rw [List.getElem?_map] at hy
          cases hi : names[i']? with
          | none => rw [hi] at hy; cases hy
          | some cc => rw [hi] at hy; exact ⟨cc, rfl, (Option.some.inj hy).symm⟩
        have re11 : Rp ex H11 e.data x := Rp.keep (kp11.mono (by simp)) _ _ rd
        refine ⟨_, rfl, c_of (ent_ix re11 ed1 hd1 rfl fun vi ri => ?_)⟩
        obtain rfl : vi = .str e.id := ri
        refine ⟨_, rfl, _, rfl, _, rfl, (by show 2 ≤ sizeLine; decide), fun T nT => ?_⟩
        have nST2 : SD ≠ T := fun y => by rw [y, nT] at src11; cases src11
        have kT : Kp [] H11 (upd H11 T (.tup [.str nm, .str w])) := Kp.laid nT
        have hS : (upd H11 T (.tup [.str nm, .str w])) SD = some (.dT ((setN w e.id (names.take i') rw9).map rowKV)) := kT _ _ (by simp) src11
        have hlen2 : ((setN w e.id (names.take i') rw9).map rowKV).length < sizeLine := by
          rw [List.length_map]
          unfold setN
          rw [List.length_map, hrl9]
          omega
        have hkey : (nm, w) ∈ (setN w e.id (names.take i') rw9).map keyR := by
          rw [keys_set]
          exact hmemo nm (List.mem_of_getElem? hnm')
        refine ⟨SD, _, rfl, DPut.t (k := [Sum.inr nm, Sum.inr w]) hS upd_same hlen2, ?_⟩
        have hput := put_row (id := e.id) hkey
        rw [set_more] at hput
        have htk : names.take i' ++ [nm] = names.take (i' + 1) := by rw [List.take_add_one, hnm']; rfl
        rw [htk] at hput
        have kpS : Kp [SD] (upd H11 T (.tup [.str nm, .str w])) (upd (upd H11 T (.tup [.str nm, .str w])) SD (.dT (putK ((setN w e.id (names.take i') rw9).map rowKV) [Sum.inr nm, Sum.inr w] (.str e.id)))) := Kp.put (by simp)
        refine ⟨_, rfl, Kp.drop (((kp11.trans kT).mono (by simp)).trans kpS) nSD, by rw [upd_same, hput], (wa11.keep kT).off kpS hS, ?_, ?_, ?_⟩
        · exact kpS _ _ (by simpa using nlS) (kT _ _ (by simp) hl11)
        · exact kpS _ _ (by simpa using nCS) (kT _ _ (by simp) hC11)
        · exact (kt11.trans (KpT.of kT)).trans (KpT.put hS (fun _ q => by cases q))
      · rintro σ H11 ⟨c10', rfl, kp11, src11, wa11, hl11, hC11, kt11⟩
        rw [List.length_map, List.take_length, hset] at src11
        have htw : ws.take i ++ [w] = ws.take (i + 1) := by rw [List.take_add_one, hw]; rfl
        rw [htw] at src11
        exact ⟨_, _, _, rfl, ⟨kp11, src11, wa11.same hopc (Nat.le_refl _)⟩, kt11, hC11⟩
    · rintro σ H9 ⟨c8, c9, c10, rfl, tr9, kt9, hC9⟩
      rw [List.length_map, List.take_length] at tr9
      refine ⟨_, rfl, !(ws.map V.str).isEmpty, .inl ⟨_, .inl (.inl hC9), rfl⟩, ?_⟩
      by_cases hw0 : ws = []
      · rw [if_pos hw0] at hback
        rw [hw0]
        refine iteF ⟨_, _, _, _, _, _, rfl, ?_, kt8.trans kt9⟩
        rw [hback]
        rw [hw0, close_nil] at tr9
        exact ⟨tr9.kp, tr9.src, tr9.wai.same (fun _ => rfl) (by omega)⟩
      · rw [if_neg hw0] at hback
        have hemp : (!(ws.map V.str).isEmpty) = true := by
          cases ws with
          | nil => exact absurd rfl hw0
          | cons _ _ => rfl
        rw [hemp]
        have re9 : Rp ex H9 e.data x := Rp.keep (tr9.kp.mono (by simp)) _ _ rd
        refine iteT ⟨_, rfl, c_of (ent_ix re9 ed1 hd2 rfl fun u ru => ?_)⟩
        obtain ⟨ra, cs, rfl, nra, hra, hcs⟩ := ru
        obtain rfl := strs_of hcs
        have hrs3 := oke.rs.2
        have hknew : ∀ r ∈ closeCs ws e.id rows, r.1 ≠ e.id := fun r hr2 => by
          obtain ⟨r0, h0, rfl⟩ := List.mem_map.mp hr2
          have h3 : (keyR (closeP ws e.id r0)).1 = (keyR r0).1 := by rw [closeP_key]
          intro y
          exact hnm r0 h0 (h3.symm.trans y)
        refine ⟨ra, rfl, ⟨_, .inl (.inl hra)⟩, for_tup (K := K) (a := ra) (xs := e.rs.map V.str) (fun i σ H' => ∃ c11 : Option V, σ = [some (.ref a), some (.ref t), some (.ref SD), some (.ref WD), some x, some (.str z), some (.str c), some (.ref C), c8, c9, c10, c11, none] ∧ TrAt H SD WD (closeCs ws e.id rows ++ (e.rs.take i).map fun cc => (e.id, cc, none)) (1 + 3 * j + i) H' ∧ KpT H9 H')
          ⟨_, rfl, by rw [List.take_zero, List.map_nil, List.append_nil]; exact tr9, KpT.refl⟩ (fun i σ H' _ ⟨_, _, _, kt⟩ => .inl (.inl (kt _ _ hra))) ?_ ?_⟩
        · rintro i y σ H10 hy ⟨c11', rfl, tr10, kt10⟩
          obtain ⟨rd_, hrd, rfl⟩ : ∃ nm, e.rs[i]? = some nm ∧ y = .str nm := by
            rw [List.getElem?_map] at hy
            cases hi : e.rs[i]? with
            | none => rw [hi] at hy; cases hy
            | some cc => rw [hi] at hy; exact ⟨cc, rfl, (Option.some.inj hy).symm⟩
          have hin : i < e.rs.length := (List.getElem?_eq_some_iff.mp hrd).1
          have re10 : Rp ex H10 e.data x := Rp.keep (tr10.kp.mono (by simp)) _ _ rd
          have hkey : (e.id, rd_) ∉ (closeCs ws e.id rows ++ (e.rs.take i).map fun cc => (e.id, cc, none)).map keyR := fun y => by
            obtain ⟨r, hr2, hk2⟩ := List.mem_map.mp y
            rcases List.mem_append.mp hr2 with y1 | y1
            · exact hknew r y1 (congrArg Prod.fst hk2)
            · obtain ⟨cc, hcc, rfl⟩ := List.mem_map.mp y1
              have : cc = rd_ := congrArg Prod.snd hk2
              rw [this] at hcc
              exact nodup_take oke.rs.1 hrd hcc
          have hlen2 : ((closeCs ws e.id rows ++ (e.rs.take i).map fun cc => (e.id, cc, none)).map rowKV).length < sizeLine := by
            rw [List.length_map, List.length_append, List.length_map, List.length_take]
            unfold closeCs
            rw [List.length_map]
            omega
          have hnext : (closeCs ws e.id rows ++ (e.rs.take i).map fun cc => (e.id, cc, none)) ++ [(e.id, rd_, none)] = closeCs ws e.id rows ++ (e.rs.take (i + 1)).map fun cc => (e.id, cc, none) := by
            rw [List.take_add_one, hrd, List.map_append, List.append_assoc]
            rfl
          have hop := open_snoc (closeCs ws e.id rows ++ (e.rs.take i).map fun cc => (e.id, cc, none)) e.id rd_
          rw [hnext] at hop
          generalize hr10 : (closeCs ws e.id rows ++ (e.rs.take i).map fun cc => (e.id, cc, none)) = rows10 at tr10 hkey hlen2 hnext hop
          refine ⟨_, rfl, _, rfl, c_of (ent_ix re10 ed1 hd1 rfl fun vi ri => ?_)⟩
          obtain rfl : vi = .str e.id := ri
          refine ⟨_, rfl, (by show 2 ≤ sizeLine; decide), fun T nT => ?_⟩
          have src10 := tr10.src
          have nST2 : SD ≠ T := fun y => by rw [y, nT] at src10; cases src10
          have kT : Kp [] H10 (upd H10 T (.tup [.str e.id, .str rd_])) := Kp.laid nT
          have hS : (upd H10 T (.tup [.str e.id, .str rd_])) SD = some (.dT (rows10.map rowKV)) := kT _ _ (by simp) src10
          refine ⟨SD, _, rfl, DPut.t (k := [Sum.inr e.id, Sum.inr rd_]) hS upd_same hlen2, ?_⟩
          have kpS : Kp [SD] (upd H10 T (.tup [.str e.id, .str rd_])) (upd (upd H10 T (.tup [.str e.id, .str rd_])) SD (.dT (putK (rows10.map rowKV) [Sum.inr e.id, Sum.inr rd_] .non))) := Kp.put (by simp)
          have hput := put_new hkey
          rw [hnext] at hput
          have kp11 : Kp [] H _ := Kp.drop (((tr10.kp.trans kT).mono (by simp)).trans kpS) nSD
          have wa11 := (tr10.wai.keep kT).off kpS hS
          have src11 : (upd (upd H10 T (.tup [.str e.id, .str rd_])) SD (.dT (putK (rows10.map rowKV) [Sum.inr e.id, Sum.inr rd_] .non))) SD = some (.dT ((closeCs ws e.id rows ++ (e.rs.take (i + 1)).map fun cc => (e.id, cc, none)).map rowKV)) := by rw [upd_same, hput]
          have kt11 : KpT H9 (upd (upd H10 T (.tup [.str e.id, .str rd_])) SD (.dT (putK (rows10.map rowKV) [Sum.inr e.id, Sum.inr rd_] .non))) := (kt10.trans (KpT.of kT)).trans (KpT.put hS (fun _ q => by cases q))
          generalize upd (upd H10 T (.tup [.str e.id, .str rd_])) SD (.dT (putK (rows10.map rowKV) [Sum.inr e.id, Sum.inr rd_] .non)) = H11 at kp11 wa11 src11 kt11 ⊢
          obtain ⟨kvs, ek, lk, _⟩ := id wa11.at_
          refine ⟨_, rfl, WD, rfl, .inl ⟨kvs, .inl ek⟩, _, rfl, (by show 0 ≤ sizeLine; decide), fun L nL => ⟨kvs, Sum.inr rd_, ?_⟩⟩
          have nLW : WD ≠ L := fun y => by rw [y, nL] at ek; cases ek
          have nLS : SD ≠ L := fun y => by rw [y, nL] at src11; cases src11
          have kL : Kp [] H11 (upd H11 L (.lst [])) := Kp.laid nL
          have wa12 := wa11.keep kL
          have ek12 := kL _ _ (by simp) ek
          have kp12 := kp11.trans kL
          have src12 := kL _ _ (by simp) src11
          have kt12 := kt11.trans (KpT.of kL)
          have hL12 : (upd H11 L (.lst [])) L = some (.lst []) := upd_same
          have hL0 : H L = none := kp_none kp11 nL
          generalize upd H11 L (.lst []) = H12 at wa12 ek12 kp12 src12 kt12 hL12 ⊢
          have re12 : Rp ex H12 e.data x := Rp.keep (kp12.mono (by simp)) _ _ rd
          refine ⟨ek12, rfl, by omega, fun v hv => ?_, fun hv => ?_⟩
          · obtain ⟨l2, rfl, hl20, hl2, wa13⟩ := wa12.more ek12 hv e.id
            refine ⟨.inl ⟨rfl, _, SqL.of hl2⟩, _, rfl, c_of (ent_ix re12 ed1 hd1 rfl fun vi ri => ?_)⟩
            obtain rfl : vi = .str e.id := ri
            have hsmall : ((openNs rows10 rd_).map V.str).length < sizeLine := by
              have h1 : (openNs rows10 rd_).length ≤ rows10.length := by
                unfold openNs
                rw [List.length_map]
                exact List.length_filter_le _ _
              rw [List.length_map] at hlen2 ⊢
              omega
            have nl2S : l2 ≠ SD := fun y => by rw [y, src12] at hl2; cases hl2
            refine ⟨l2, _, _, rfl, rfl, hl2, hsmall, _, rfl, ⟨Kp.drop ((kp12.mono (by simp)).trans (Kp.put (ex := [l2]) (by simp))) hl20, by rw [upd_ne nl2S.symm]; exact src12, wa13.same (fun cc => (hop cc).symm) (by omega)⟩, kt12.trans (KpT.put hl2 (fun _ q => by cases q))⟩
          · have wa13 := wa12.first ek12 hv hL12 hL0 e.id
            have nSW12 : SD ≠ WD := fun y => by rw [y, ek12] at src12; cases src12
            have hLW : (upd H12 WD (.dK (putK kvs (Sum.inr rd_) (.ref L)))) L = some (.lst []) := by rw [upd_ne nLW.symm]; exact hL12
            have kpW : Kp [WD] H12 (upd H12 WD (.dK (putK kvs (Sum.inr rd_) (.ref L)))) := Kp.put (by simp)
            have kp13 : Kp [] H (upd H12 WD (.dK (putK kvs (Sum.inr rd_) (.ref L)))) := Kp.drop ((kp12.mono (by simp)).trans kpW) hW0
            have src13 := kpW _ _ (by simpa using nSW12) src12
            have kt13 : KpT H9 (upd H12 WD (.dK (putK kvs (Sum.inr rd_) (.ref L)))) := kt12.trans (KpT.put ek12 (fun _ q => by cases q))
            refine ⟨.inl ⟨rfl, _, SqL.of hLW⟩, _, rfl, c_of (ent_ix (Rp.keep (kp13.mono (by simp)) _ _ rd) ed1 hd1 rfl fun vi ri => ?_)⟩
            obtain rfl : vi = .str e.id := ri
            refine ⟨L, _, _, rfl, rfl, hLW, (by show 0 < sizeLine; decide), _, rfl, ⟨Kp.drop ((kp13.mono (by simp)).trans (Kp.put (ex := [L]) (by simp))) hL0, by rw [upd_ne nLS]; exact src13, wa13.same (fun cc => (hop cc).symm) (by omega)⟩, kt13.trans (KpT.put hLW (fun _ q => by cases q))⟩
        · rintro σ H10 ⟨c11', rfl, tr10, kt10⟩
          rw [List.length_map, List.take_length, ← hback] at tr10
          exact ⟨_, _, _, _, _, _, rfl, ⟨tr10.kp, tr10.src, tr10.wai.same (fun _ => rfl) (by omega)⟩, (kt8.trans kt9).trans kt10⟩
  · have ej : j = ys.length := by omega
    refine .inl ⟨ge, ?_⟩
    rw [ej, ← hfl, Nat.sub_self, List.drop_zero] at tr5
    have hrn : (backL fs [(z, c, none)]).length ≤ 3001 := by
      have := back_len (row := (z, c, none)) (l := fs) fun u hu => (okf u hu).rs.2
      omega
    generalize backL fs [(z, c, none)] = rows at tr5 hrn q
    refine ⟨SD, _, tr5.src, trivial, fun od => ⟨_, rfl, SD, od, _, rfl, upd_same, fun C nC => ?_⟩⟩
    have kF : Kp [SD] H5 (upd H5 SD (.frz od (.dT (rows.map rowKV)))) := Kp.put (by simp)
    have kpF : Kp [] H (upd H5 SD (.frz od (.dT (rows.map rowKV)))) := Kp.drop ((tr5.kp.mono (by simp)).trans kF) nSD
    have hF : (upd H5 SD (.frz od (.dT (rows.map rowKV)))) SD = some (.frz od (.dT (rows.map rowKV))) := upd_same
    obtain ⟨HF, eF⟩ : ∃ HF, upd H5 SD (.frz od (.dT (rows.map rowKV))) = HF := ⟨_, rfl⟩
    rw [eF] at kF kpF hF nC
    rw [eF]
    have nCS : C ≠ SD := fun y => by rw [y, hF] at nC; cases nC
    have lvF := lv.kp0 kpF
    have hC0 : H C = none := kp_none kpF nC
    have nCex : C ∉ ex := lvF.fresh nC
    refine lc_inv (J := ItT SD od (rows.map rowKV)) rows.length (fun i H' => Kp [C] HF H' ∧ ∃ acc : List V, H' C = some (.lst acc) ∧ acc.length = i ∧ RpAll (C :: SD :: ex) H' ((rows.take i).map rowD) acc) ⟨Kp.laid nC, [], upd_same, rfl, rfl⟩ ?_ (fun i H' hi ⟨k, _⟩ => ⟨k _ _ (by simpa using nCS.symm) hF, by rw [List.length_map]; exact hi⟩) ?_
    case refine_2 =>
      rintro i H6 x H7 hi ⟨k6, acc, hC6, hacc, hr6⟩ ⟨T, qa, kk, v, hkv, rfl, nT, hq, rfl⟩
      obtain ⟨r, hr1, hr2⟩ : ∃ r, rows[i]? = some r ∧ rowKV r = (kk, v) := by
        rw [List.getElem?_map] at hkv
        cases h : rows[i]? with
        | none => rw [h] at hkv; cases hkv
        | some r => rw [h] at hkv; exact ⟨r, rfl, Option.some.inj hkv⟩
      obtain rfl : [Sum.inr r.1, Sum.inr r.2.1] = kk := congrArg Prod.fst hr2
      obtain rfl : optV r.2.2 = v := congrArg Prod.snd hr2
      have kT : Kp [] H6 (upd H6 T (.tup [.ref qa, optV r.2.2])) := Kp.laid nT
      refine ⟨T, _, rfl, .inl (.inl upd_same), rfl, _, _, rfl, qa, _, rfl, .inl (.inl (kT _ _ (by simp) hq)), rfl, _, _, rfl, _, _, rfl, rfl, _, _, rfl, rfl, rfl, yes_on ?_⟩
      refine ⟨_, rfl, _, rfl, _, rfl, (by show 3 ≤ sizeLine; decide), fun p np => ?_⟩
      have kp : Kp [] (upd H6 T (.tup [.ref qa, optV r.2.2])) (upd (upd H6 T (.tup [.ref qa, optV r.2.2])) p (.tup [.str r.1, .str r.2.1, optV r.2.2])) := Kp.laid np
      have lvC : Live (C :: SD :: ex) H6 := fun b hb y => by
        rcases List.mem_cons.mp hb with h | h
        · rw [h, hC6] at y; cases y
        rcases List.mem_cons.mp h with h | h
        · rw [h, k6 _ _ (by simpa using nCS.symm) hF] at y; cases y
        · exact (lv.kp0 (Kp.drop ((kpF.mono (by simp)).trans k6) hC0)) b h y
      have npC : p ∉ C :: SD :: ex := (lvC.kp0 kT).fresh np
      have rnew : Rp (C :: SD :: ex) (upd (upd H6 T (.tup [.ref qa, optV r.2.2])) p (.tup [.str r.1, .str r.2.1, optV r.2.2])) (rowD r) (.ref p) := rp_new npC np ⟨_, _, rfl, rfl, _, _, rfl, rfl, RpAll.one (by cases r.2.2 <;> rfl)⟩
      have hC8 := (kT.trans kp) _ _ (by simp) hC6
      have kC : Kp (C :: SD :: ex) (upd (upd H6 T (.tup [.ref qa, optV r.2.2])) p (.tup [.str r.1, .str r.2.1, optV r.2.2])) (upd (upd (upd H6 T (.tup [.ref qa, optV r.2.2])) p (.tup [.str r.1, .str r.2.1, optV r.2.2])) C (.lst (acc ++ [.ref p]))) := Kp.put (by simp)
      refine ⟨acc, hC8, by omega, (k6.trans ((kT.trans kp).mono (by simp))).trans (Kp.put (by simp)), acc ++ [.ref p], upd_same, by rw [List.length_append, hacc]; rfl, ?_⟩
      rw [List.take_add_one, hr1, List.map_append]
      exact RpAll.app (RpAll.keep (((kT.trans kp).mono (by simp)).trans kC) _ _ hr6) (RpAll.one (Rp.keep kC _ _ rnew))
    case refine_1 =>
      rintro H6 ⟨k6, acc, hC6, hacc, hr6⟩
      have hF6 := k6 _ _ (by simpa using nCS.symm) hF
      refine ⟨⟨hF6, by rw [List.length_map]; exact Nat.le_refl _⟩, hF6, ?_⟩
      rw [List.take_length] at hr6
      have kpe : Kp [] H (upd H6 SD (.dT (rows.map rowKV))) := Kp.drop (((Kp.drop ((kpF.mono (by simp)).trans k6) hC0).mono (by simp)).trans (Kp.put (ex := [SD]) (by simp))) nSD
      have kSD : Kp (C :: SD :: ex) H6 (upd H6 SD (.dT (rows.map rowKV))) := Kp.put (by simp)
      exact q C _ kpe hC0 ⟨C, acc, rfl, nCex, by rw [upd_ne nCS]; exact hC6, RpAll.less (by intro b hb; simp [hb]) _ _ (RpAll.keep kSD _ _ hr6)⟩
end
end NV
/-! CallQ -/
set_option Elab.async false
set_option linter.all false
set_option maxRecDepth 100000
set_option maxHeartbeats 600000
/-! a def of the top called in several ways: by keywords in any order, by keywords alone, without its keyword-only parameter -/
namespace NV
open PySem PySem.Spec PyProof.Rows L2
/-- a def of the top, however it is called -/
structure FnF (K : PySem.W.Frag) (mg : Str → Option Value) (nm : Str) (st : Stmt) : Type where
  f : Addr
  fd : FuncData
  F : Fun K nm nm st f fd
  m : mg nm = some (.ref f)
/-- what stands for the parameters that lack -/
structure Lack (K : PySem.W.Frag) (fd : FuncData) (ps : List Str) (dvs : List V) : Prop where
  ex : ∃ ds, Vals dvs ds ∧ Binds K fd ps ds
section
variable {K : PySem.W.Frag} {x qual : Str} {st : Stmt} {f : Addr} {fd : FuncData} {ps ks : List Str} {n : Nat} {g : List Value → List Value → List Value} {gV : List V → List V → List V}
theorem kbn_mk (F : Fun K x qual st f fd) (hb : ∀ (kV doc pm : Value) (an : Option Addr) (cdv ct : Value) (us ws : List Value), us.length = n → ws.length = ks.length → bindArgs (PySem.W.fnOf x qual (defArgs st) (defBody st) (defScope st) .none kV doc pm an cdv ct) ⟨us, ks.zip ws⟩ = pure (ps.zip (g us ws)))
    (hr : ∀ {vs : List V} {us : List Value} {zs : List V} {ws : List Value}, Vals vs us → Vals zs ws → Vals (gV vs zs) (g us ws)) : KBn K fd ps n ks g gV := by
  obtain ⟨oc, od, kV, doc, pm, an, cdv, ct, osl, rfl, lk, hcd⟩ := F.ex
  exact ⟨fun s us ws _ h1 h2 => .of_eq (hb kV doc pm an cdv ct us ws h1 h2), hr⟩
theorem binds_mk (F : Fun K x qual st f fd) (hb : ∀ (kV doc pm : Value) (an : Option Addr) (cdv ct : Value) (us : List Value), us.length = ps.length → bindArgs (PySem.W.fnOf x qual (defArgs st) (defBody st) (defScope st) .none kV doc pm an cdv ct) ⟨us, []⟩ = pure (ps.zip us)) : Binds K fd ps [] := F.binds hb
end
/-- a def with one keyword-only parameter q whose value, where it lacks, is told by φ -/
def AtQ (K : PySem.W.Frag) (nm : Str) (st : Stmt) (q : Str) (φ : Value → Prop) : Prop := ∃ (f D : Addr) (oc : Value) (od : Option Addr) (doc pm : Value) (an : Option Addr) (cd ct : Value) (sl : Array (Option Value)) (u : Value),
  PySem.W.nsIn K mainGlobals nm = some (some (.ref f)) ∧ K.lookup f = some ⟨oc, od, .func (PySem.W.fnOf nm nm (defArgs st) (defBody st) (defScope st) .none (.ref D) doc pm an cd ct), sl⟩ ∧ PySem.W.codeIn K cd nm = true ∧ PySem.W.keepIn K (.ref f) = true ∧ PySem.W.nsIn K D q = some (some u) ∧ φ u
/-- the empty tuple of the written part -/
def IsTup0 (K : PySem.W.Frag) (u : Value) : Prop := ∃ (T : Addr) (dT : Option Addr) (n : Nat) (sT : Array (Option Value)), u = .ref T ∧ K.lookup T = some ⟨.type "tuple", dT, .seq #[] n, sT⟩
def IsIntV (i : Int) (u : Value) : Prop := ∃ t, u = .int i t
section
variable {K : PySem.W.Frag} {h : Heap} {mg : Str → Option Value} {nm : Str} {st : Stmt} {q : Str} {φ : Value → Prop}
theorem atQ_mk {f D : Addr} {oc : Value} {od : Option Addr} {doc pm : Value} {an : Option Addr} {cd ct : Value} {sl : Array (Option Value)} {u : Value} (a : PySem.W.nsIn K mainGlobals nm = some (some (.ref f))) (l : K.lookup f = some ⟨oc, od, .func (PySem.W.fnOf nm nm (defArgs st) (defBody st) (defScope st) .none (.ref D) doc pm an cd ct), sl⟩)
    (c : PySem.W.codeIn K cd nm = true) (k : PySem.W.keepIn K (.ref f) = true) (d : PySem.W.nsIn K D q = some (some u)) (p : φ u) : AtQ K nm st q φ := ⟨f, D, oc, od, doc, pm, an, cd, ct, sl, u, a, l, c, k, d, p⟩
theorem tup0_mk {T : Addr} {dT : Option Addr} {n : Nat} {sT : Array (Option Value)} (l : K.lookup T = some ⟨.type "tuple", dT, .seq #[] n, sT⟩) : IsTup0 K (.ref T) := ⟨T, dT, n, sT, rfl, l⟩
theorem intV_mk {i : Int} {t : Tok} : IsIntV i (.int i t) := ⟨t, rfl⟩
/-- the def, and how it is called without q -/
theorem fnq_at {ps : List Str} (n : Nat) (X : K.In h) (G : h.Ns mainGlobals mg) (a : AtQ K nm st q φ) (hn : n + 1 = ps.length)
    (hb : ∀ (D : Addr) (doc pm : Value) (an : Option Addr) (cdv ct : Value) (us ks : List Value), us.length = n → ks.length = 1 → KwChain D ([q].zip ks) (bindArgs (PySem.W.fnOf nm nm (defArgs st) (defBody st) (defScope st) .none (.ref D) doc pm an cdv ct) ⟨us, []⟩) (ps.zip (us ++ ks))) :
    ∃ D : FnF K mg nm st, ∃ u, φ u ∧ ∀ v, RelV v u → Lack K D.fd ps [v] := by
  obtain ⟨f, D, oc, od, doc, pm, an, cd, ct, sl, u, a1, l1, c1, k1, d1, p1⟩ := a
  refine ⟨⟨f, _, fun_mk (st := st) l1 c1 k1, PySem.W.mg_of X G a1⟩, u, p1, fun v rv => ?_⟩
  have F : FunD K nm nm (defArgs st) (defBody st) (defScope st) [] [(q, v)] f (PySem.W.fnOf nm nm (defArgs st) (defBody st) (defScope st) .none (.ref D) doc pm an cd ct) :=
    ⟨⟨oc, od, .none, .ref D, doc, pm, an, cd, ct, sl, rfl, l1, c1, .inl ⟨rfl, rfl⟩, .inr ⟨D, rfl, fun p hp => ⟨u, by rw [List.mem_singleton.mp hp]; exact ⟨d1, rv⟩⟩⟩⟩, k1⟩
  obtain ⟨ds, hv, b⟩ := F.binds0 (ps := ps) n (by simp) (by simpa using hn) fun D doc pm an cdv ct us ks h1 h2 => hb D doc pm an cdv ct us ks h1 (by simpa using h2)
  exact ⟨ds, hv, b⟩
end
section
variable {X : Cx} {nm : Str} {st : Stmt} {ps ks : List Str} {sp : Sp} {e : Expr} {es : List Expr} {kws : List Keyword} {t tk : TA} {p pos : Pos} {j k n : Nat} {g : List Value → List Value → List Value} {gV : List V → List V → List V}
/-- f(e, .., k = v, ..) -/
theorem pe_q (D : FnF X.K X.mg nm st) (B : KBn X.K D.fd ps n ks g gV) (G : FnOk X.prog X.w X.K X.mg X.base CX0 j D.f D.fd ps sp) (hr : Room k X.A) (ha : PA X (e :: es) t) (hkw : PK X kws tk)
    (hk : j ≤ k := by decide) (hg : Gl X nm := by rfl) (hall : ((backToKw pos (keywordEach kws X.env)).all (·.1.isSome)) = true := by rfl) (hks : (backToKw pos (keywordEach kws X.env)).filterMap (·.1) = ks := by rfl) (hdb : (nm == ("__debug__" : Str)) = false := by decide)
    (he : starEach (e :: es) X.env = (false, eval e X.env) :: starEach es X.env := by rfl) (hpl : (((backTo pos (starEach (e :: es) X.env)).any (·.1)) || ((backToKw pos (keywordEach kws X.env)).any (·.1.isNone))) = false := by rfl) :
    PE X (.Call (.Name nm p) (e :: es) kws pos) (tCallN n ks.length sp gV (fun _ _ _ => False) t tk) := pe_callN G (hr.mono hk) hg D.m D.F.kp B pass0 ha hkw hall hks hdb he hpl
/-- f(k = v, ..) -/
def tCallW (m : Nat) (sp : Sp) (gV : List V → List V → List V) (tk : TA) : TE := fun σ H Q => tk σ H fun zs H2 => zs.length = m ∧ sp (gV [] zs) H2 Q (fun _ _ _ => False)
theorem pe_q0 (D : FnF X.K X.mg nm st) (B : KBn X.K D.fd ps 0 ks g gV) (G : FnOk X.prog X.w X.K X.mg X.base CX0 j D.f D.fd ps sp) (hr : Room k X.A) (hkw : PK X kws tk)
    (hk : j ≤ k := by decide) (hg : Gl X nm := by rfl) (hall : ((backToKw pos (keywordEach kws X.env)).all (·.1.isSome)) = true := by rfl) (hks : (backToKw pos (keywordEach kws X.env)).filterMap (·.1) = ks := by rfl) (hdb : (nm == ("__debug__" : Str)) = false := by decide)
    (hpl : (((backTo pos (starEach [] X.env)).any (·.1)) || ((backToKw pos (keywordEach kws X.env)).any (·.1.isNone))) = false := by rfl) :
    PE X (.Call (.Name nm p) [] kws pos) (tCallW ks.length sp gV tk) := by
  refine ⟨fun pins s σ H Q I h => ?_⟩
  refine wpAny_Call_Name_kw (ld_glob I hg D.m ?_ hdb)
  refine PySem.W.callWith_KW0 (h₀ := X.base) I.ok.mod.kin D.F.kp hall (thn (hkw.run pos pins s σ H _ I h) fun ws s2 ⟨zs, H2, I2, rz, l2, q2⟩ => ⟨I2.kIn, ?_⟩) hpl
  rw [hks]
  exact run_fnN (vs := []) G (hr.mono hk) B pass0 I2 .nil rz rfl l2 q2
/-- f(e, ..) with all that is wanted -/
theorem pe_qn (D : FnF X.K X.mg nm st) (B : Binds X.K D.fd ps []) (G : FnOk X.prog X.w X.K X.mg X.base CX0 j D.f D.fd ps sp) (hr : Room k X.A) (ha : PA X (e :: es) t)
    (hk : j ≤ k := by decide) (hg : Gl X nm := by rfl) (hdb : (nm == ("__debug__" : Str)) = false := by decide) (he : starEach (e :: es) X.env = (false, eval e X.env) :: starEach es X.env := by rfl) (hpl : (backTo pos (starEach es X.env)).any (·.1) = false := by rfl) :
    PE X (.Call (.Name nm p) (e :: es) [] pos) (tCall sp [] (fun _ _ _ => False) t) := pe_call G (hr.mono hk) hg D.m D.F.kp B .nil pass0 ha hdb he hpl
/-- f(e, ..), some lacking -/
theorem pe_ql {dvs : List V} (D : FnF X.K X.mg nm st) (B : Lack X.K D.fd ps dvs) (G : FnOk X.prog X.w X.K X.mg X.base CX0 j D.f D.fd ps sp) (hr : Room k X.A) (ha : PA X (e :: es) t)
    (hk : j ≤ k := by decide) (hg : Gl X nm := by rfl) (hdb : (nm == ("__debug__" : Str)) = false := by decide) (he : starEach (e :: es) X.env = (false, eval e X.env) :: starEach es X.env := by rfl) (hpl : (backTo pos (starEach es X.env)).any (·.1) = false := by rfl) :
    PE X (.Call (.Name nm p) (e :: es) [] pos) (tCall sp dvs (fun _ _ _ => False) t) := by
  obtain ⟨ds, vs, b⟩ := B.ex
  exact pe_call G (hr.mono hk) hg D.m D.F.kp b vs pass0 ha hdb he hpl
end
end NV
/-! V8a -/
set_option Elab.async false
set_option linter.all false
set_option maxRecDepth 100000
set_option maxHeartbeats 1000000
/-! the package's dependencies, asked rightly; who has its source here -/
namespace NV
open PySem PySem.Spec PyProof.Rows L2
open C8 (pss_cut pe_gc)
abbrev sDependencies : Stmt := topS 43
theorem scDependencies : FnScope ["log", "target", "retracted"] ["log", "target", "retracted"] (defScope sDependencies) := ⟨rfl, rfl, rfl, by decide +kernel, rfl, by decide +kernel, by decide +kernel⟩
/-- some row has its source here -/
def srcIn (rows : List Row) (z : Str) : Bool := rows.any fun r => decide (r.2.2 = some z)
def writesIn (es : List Ent) (rows : List Row) : List Str := (es.filter fun e => srcIn rows e.id).map Ent.id
theorem id_inj {es : List Ent} (nd : (es.map Ent.id).Nodup) {e u : Ent} (he : e ∈ es) (hu : u ∈ es) (h : e.id = u.id) : e = u := by
  induction es with
  | nil => cases he
  | cons x l ih =>
    rw [List.map_cons, List.nodup_cons] at nd
    rcases List.mem_cons.mp he with a | a
    · rcases List.mem_cons.mp hu with b | b
      · rw [a, b]
      · exact absurd (by rw [← a, h]; exact List.mem_map.mpr ⟨u, b, rfl⟩) nd.1
    · rcases List.mem_cons.mp hu with b | b
      · exact absurd (by rw [← b, ← h]; exact List.mem_map.mpr ⟨e, a, rfl⟩) nd.1
      · exact ih nd.2 a b
/-- the reader's place in the log without the retracted writes -/
theorem pos_live {es : List Ent} {gone : List Str} {z : Str} {k : Nat} (h : PosOf es z k) (hz : z ∉ gone) : PosOf (liveB es gone) z (liveB (es.take k) gone).length ∧ (liveB es gone).take (liveB (es.take k) gone).length = liveB (es.take k) gone := by
  have split : liveB es gone = liveB (es.take k) gone ++ liveB (es.drop k) gone := by
    unfold liveB
    rw [← List.filter_append, List.take_append_drop]
  have htake : (liveB es gone).take (liveB (es.take k) gone).length = liveB (es.take k) gone := by
    rw [split, List.take_left]
  refine ⟨?_, htake⟩
  rcases h with ⟨hz0, rfl⟩ | ⟨hz0, ⟨e, he, hid⟩, no⟩
  · left
    refine ⟨hz0, ?_⟩
    rw [List.take_length]
  · right
    refine ⟨hz0, ⟨e, ?_, hid⟩, fun j u hj hu => ?_⟩
    · rw [split, List.getElem?_append_right (Nat.le_refl _), Nat.sub_self]
      have hd : es.drop k = e :: es.drop (k + 1) := by
        obtain ⟨hk, h⟩ := List.getElem?_eq_some_iff.mp he
        rw [List.drop_eq_getElem_cons hk, h]
      rw [hd]
      unfold liveB
      rw [List.filter_cons, if_pos (by rw [hid]; simpa using hz)]
      rfl
    · rw [split, List.getElem?_append_left hj] at hu
      have hm := List.mem_of_getElem? hu
      unfold liveB at hm
      have hm := (List.mem_filter.mp hm).1
      obtain ⟨i, hi⟩ := List.mem_iff_getElem?.mp hm
      have hik : i < k := by
        have := (List.getElem?_eq_some_iff.mp hi).1
        rw [List.length_take] at this
        omega
      rw [List.getElem?_take_of_lt hik] at hi
      exact no i u hik hi
/-- a target's reader is not retracted -/
theorem target_gone {es : List Ent} {gone : List Str} {z c : Str} {k : Nat} (t : TargetOk es z c k) (g : GoneOk es gone) : z ∉ gone := fun h => by
  obtain ⟨hid, hall⟩ := g z h
  rcases t.pos with ⟨hz, _⟩ | ⟨_, ⟨e, he, hez⟩, _⟩
  · rw [hz] at hid
    exact absurd hid (by decide)
  · have := (hall e (List.mem_of_getElem? he) hez).1
    have q := t.query
    unfold writeAt at q
    rw [he] at q
    have q : e.isW = false := q
    rw [this] at q
    cases q
theorem liveB_ok {es : List Ent} {gone : List Str} (h : ∀ e ∈ es, e.Ok) : ∀ e ∈ liveB es gone, e.Ok := fun e he => h e (List.mem_filter.mp he).1
theorem liveB_nd {es : List Ent} {gone : List Str} (h : (es.map Ent.id).Nodup) : ((liveB es gone).map Ent.id).Nodup := h.sublist (List.filter_sublist.map _)
theorem liveB_len {es : List Ent} {gone : List Str} : (liveB es gone).length ≤ es.length := List.length_filter_le _ _
/-- what the target's rows are -/
def depRows (es : List Ent) (gone : List Str) (z c : Str) (k : Nat) : List Row := rowsOf (es.map (bl gone)) (z, c, k)
def spDeps (K : PySem.W.Frag) : Sp := fun vs H Q _ => ∃ (v : V) (t g : Addr) (es : List Ent) (gone : List Str) (b : Bool) (z c : Str) (k : Nat) (ex : List Addr), vs = [v, .ref t, .ref g] ∧ Rp ex H (logD es) v ∧ LogOk es ∧ es.length ≤ 60 ∧ H t = some (.tup [.str z, .str c]) ∧ TargetOk es z c k ∧ Names K b H g gone ∧ GoneOk es gone ∧ gone.length ≤ 1000 ∧ Live ex H ∧
  ∀ p H', Kp [] H H' → H p = none → Rp ex H' (.list ((depRows es gone z c k).map rowD)) (.ref p) → Q (.ref p) H'
section
variable {P : Program} {w : World} {K : PySem.W.Frag} {mg : Str → Option Value} {base : Heap}
theorem ok_deps (DDependencies : FnF K mg "dependencies" sDependencies) (DCheckLog : Fn K mg "check_log" sCheckLog ["log"]) (DCheckRetracted : Fn K mg "check_retracted" sCheckRetracted ["log", "retracted"]) (DCheckTarget : Fn K mg "check_target" sCheckTarget ["log", "target"]) (DTriplesOf : Fn K mg "triples_of" sTriplesOf ["live", "target"]) (DWithoutRetracted : Fn K mg "without_retracted" sWithoutRetracted ["log", "retracted"])
    (GCheckLog : FnOk P w K mg base CX0 7 DCheckLog.f DCheckLog.fd ["log"] spCheck) (GCheckRetracted : FnOk P w K mg base CX0 2 DCheckRetracted.f DCheckRetracted.fd ["log", "retracted"] (spRetr K)) (GCheckTarget : FnOk P w K mg base CX0 5 DCheckTarget.f DCheckTarget.fd ["log", "target"] spTarget)
    (GTriplesOf : FnOk P w K mg base CX0 2 DTriplesOf.f DTriplesOf.fd ["live", "target"] spTriples) (GWithoutRetracted : FnOk P w K mg base CX0 1 DWithoutRetracted.f DWithoutRetracted.fd ["log", "retracted"] (spWithout K)) :
    FnOk P w K mg base CX0 8 DDependencies.f DDependencies.fd ["log", "target", "retracted"] (spDeps K) := by
  refine DDependencies.F.ok scDependencies (fun vs H Q E h => ?_) (fun cdv A outer s H vs Q E hr h => ?_)
  · obtain ⟨v, t, g, es, gone, b, z, c, k, ex, rfl, _⟩ := h
    rfl
  obtain ⟨v, t, g, es, gone, b, z, c, k, ex, rfl, rv, ok, h60, ht, tk, ng, gok, hg, lv, q⟩ := h
  refine ⟨_, pss_cons (ps_expr (pe_fn DCheckLog GCheckLog hr (pa_cons (pv 0) pa_nil)))
      (pss_cons (ps_expr (pe_fn DCheckRetracted GCheckRetracted hr (pa_cons (pv 0) (pa_cons (pv 2) pa_nil))))
      (pss_cons (ps_expr (pe_fn DCheckTarget GCheckTarget hr (pa_cons (pv 0) (pa_cons (pv 1) pa_nil))))
      (pss_one (ps_ret (pe_fn DTriplesOf GTriplesOf hr (pa_cons (pe_fn DWithoutRetracted GWithoutRetracted hr (pa_cons (pv 0) (pa_cons (pv 2) pa_nil))) (pa_cons (pv 1) pa_nil))))))), ?_⟩
  refine ⟨_, rfl, v, es, ex, rfl, rv, ok, h60, fun H1 k1 => ?_⟩
  have up : ∀ {H' : Hp}, Kp [] H H' → Rp ex H' (logD es) v := fun k => Rp.keep (k.mono (by simp)) _ _ rv
  refine ⟨_, rfl, _, rfl, v, g, es, gone, b, ex, rfl, up k1, ng.keep0 k1, by omega, gok, fun H2 k2 => ?_⟩
  have k12 := k1.trans k2
  refine ⟨_, rfl, _, rfl, v, t, es, ex, z, c, k, rfl, up k12, k12 _ _ (by simp) ht, tk, fun H3 k3 => ?_⟩
  have k13 := k12.trans k3
  refine ⟨_, rfl, _, rfl, v, g, es, gone, b, ex, rfl, up k13, ng.keep0 k13, by omega, hg, lv.kp0 k13, fun p H4 k4 r4 => ?_⟩
  have k14 := k13.trans k4
  obtain ⟨hp, htake⟩ := pos_live tk.pos (target_gone tk gok)
  refine ⟨_, rfl, .ref p, t, liveB es gone, ex, z, c, _, rfl, r4, k14 _ _ (by simp) ht, liveB_ok ok.ok, liveB_nd ok.nd, Nat.le_trans liveB_len (by omega), hp, lv.kp0 k14, fun p2 H5 k5 n5 r5 => ?_⟩
  rw [htake] at r5
  rw [show backL (liveB (es.take k) gone) [(z, c, none)] = depRows es gone z c k from rows_live (q := (z, c, k)) tk.pos.le] at r5
  exact q p2 H5 (k14.trans k5) (kp_none k14 n5) r5
end
end NV
/-! V3 -/
set_option Elab.async false
set_option linter.all false
set_option maxRecDepth 100000
set_option maxHeartbeats 1000000
/-! the package's source_before -/
namespace NV
open PySem PySem.Spec PyProof.Rows L2
open C8 (pss_cut pe_gc)
abbrev sSourceBefore : Stmt := topS 40
theorem scSourceBefore : FnScope ["live", "position", "cell", "entry"] ["live", "position", "cell"] (defScope sSourceBefore) := ⟨rfl, rfl, rfl, by decide +kernel, rfl, by decide +kernel, by decide +kernel⟩
/-- the last write of the cell -/
def lastW (es : List Ent) (c : Str) : Option Ent := es.reverse.find? fun e => decide (c ∈ e.ws)
theorem lastW_snoc (es : List Ent) (e : Ent) (c : Str) : lastW (es ++ [e]) c = if c ∈ e.ws then some e else lastW es c := by
  unfold lastW
  rw [List.reverse_append]
  show ([e] ++ es.reverse).find? _ = _
  rw [List.singleton_append, List.find?_cons]
  by_cases h : c ∈ e.ws
  · rw [decide_eq_true h, if_pos h]
  · rw [decide_eq_false h, if_neg h]
def srcV : Option Ent → V
  | none => .non
  | some e => .str e.id
def spSource : Sp := fun vs H Q _ => ∃ (v : V) (es : List Ent) (ex : List Addr) (k : Nat) (c : Str), vs = [v, .int (k : Nat), .str c] ∧ Rp ex H (logD es) v ∧ k ≤ es.length ∧ es.length ≤ 100 ∧ Live ex H ∧ ∀ H', Kp [] H H' → Q (srcV (lastW (es.take k) c)) H'
section
variable {P : Program} {w : World} {K : PySem.W.Frag} {mg : Str → Option Value} {base : Heap}
theorem ok_source (DSourceBefore : Fn K mg "source_before" sSourceBefore ["live", "position", "cell"]) (DCellsWritten : Fn K mg "cells_written" sCellsWritten ["entry"]) (b_reversed : mg "reversed" = none) (g1 : ∃ u, mg "ID" = some u ∧ L2.RelV (.int 1) u)
    (GCellsWritten : FnOk P w K mg base CX0 1 DCellsWritten.f DCellsWritten.fd ["entry"] spCellsW) : FnOk P w K mg base CX0 2 DSourceBefore.f DSourceBefore.fd ["live", "position", "cell"] spSource := by
  refine DSourceBefore.F.ok scSourceBefore (fun vs H Q E h => ?_) (fun cdv A outer s H vs Q E hr h => ?_)
  · obtain ⟨v, es, ex, k, c, rfl, _⟩ := h
    rfl
  obtain ⟨v, es, ex, k, c, rfl, rv, hk, h100, lv, q⟩ := h
  refine ⟨_, pss_cons (ps_for PassesOwn.never rfl (RT.pi_revA (by rfl) b_reversed (pe_slice (sltAE K) (pv 0) po_none (po_some (pv 1)))) (pg_name (i := 3) scSourceBefore.nd rfl (.inl rfl))
      (pss_one (ps_if (pt_cmpR (inE K) (pv 2) (pe_fn DCellsWritten GCellsWritten hr (pa_cons (pv 3) pa_nil)) (by rfl))
      (pss_one (ps_ret (pe_ix (ixtE K) (pv 3) (pe_gc (v := .int 1) rfl g1) (fun _ _ => rfl))))
      pss_nil)))
      (pss_one (ps_ret pe_non)), ?_⟩
  obtain ⟨a, xs, rfl, na, ha, hx⟩ := rv
  have hl : es.length = xs.length := by
    have := hx.length
    rwa [List.length_map] at this
  refine ⟨_, rfl, _, rfl, _, rfl, slA ha na (fun p np => lv.fresh np) fun p H1 k1 e1 n1 => ?_⟩
  rw [cut_to] at e1
  have hx1 : RpAll ex H1 ((es.take k).map Ent.data) (xs.take k) := by
    rw [List.map_take]
    exact (RpAll.cutT k (RpAll.keep (k1.mono (by simp)) _ _ hx)).1
  generalize hes : es.take k = fs at hx1 q
  generalize xs.take k = ys at e1 hx1
  have hfl : fs.length = ys.length := by
    have := hx1.length
    rwa [List.length_map] at this
  have aT : ∀ {H' : Hp}, Kp [] H1 H' → SqT K H' p ys := fun k => .inl (.inl (k _ _ (by simp) e1))
  refine ⟨p, ys, rfl, .inr ⟨.inl (.inl e1), ?_⟩⟩
  refine ⟨fun j m σ H' => m = ys.length - j ∧ j ≤ ys.length ∧ ∃ c3 : Option V, σ = [some (.ref a), some (.int (k : Nat)), some (.str c), c3] ∧ Kp [] H1 H' ∧ lastW fs c = lastW (fs.take (fs.length - j)) c, ⟨ys.length, by simp, Nat.zero_le _, none, rfl, Kp.refl, by rw [Nat.sub_zero, List.take_length]⟩, ?_⟩
  rintro j m σ H2 ⟨rfl, hj, c3, rfl, k2, same⟩
  rcases Nat.lt_or_ge j ys.length with lt | ge
  · have hix : ys.length - 1 - j < ys.length := by omega
    refine .inr ⟨⟨lt, ys, _, aT k2, List.getElem?_eq_getElem hix⟩, fun σ' H' => ∃ c3 : Option V, σ' = [some (.ref a), some (.int (k : Nat)), some (.str c), c3] ∧ Kp [] H1 H' ∧ lastW fs c = lastW (fs.take (fs.length - (j + 1))) c, fun σ' H' i => ⟨ys.length - (j + 1), by omega, rfl, by omega, i⟩, ?_⟩
    rintro x H3 ⟨rfl, hx3⟩
    have hx3 := hx3 ys (aT k2)
    obtain ⟨d, hd, rd⟩ := RpAll.back hx1 hx3
    obtain ⟨e, he, rfl⟩ : ∃ e, fs[ys.length - 1 - j]? = some e ∧ e.data = d := by
      rw [List.getElem?_map] at hd
      cases h : fs[ys.length - 1 - j]? with
      | none => rw [h] at hd; cases hd
      | some e => rw [h] at hd; exact ⟨e, rfl, Option.some.inj hd⟩
    have hlast : fs.take (fs.length - j) = fs.take (fs.length - (j + 1)) ++ [e] := by
      have h1 : fs.length - j = (fs.length - (j + 1)) + 1 := by omega
      have h2 : fs.length - (j + 1) = ys.length - 1 - j := by omega
      rw [h1, List.take_add_one, h2, he]
      rfl
    rw [hlast, lastW_snoc] at same
    have rd3 := Rp.keep (k2.mono (ex' := ex) (by simp)) _ _ rd
    refine ⟨_, rfl, _, rfl, x, e, ex, rfl, rd3, fun p4 H4 k4 e4 => in_names e4 ⟨_, rfl, ?_⟩⟩
    by_cases hc : c ∈ e.ws
    · rw [if_pos hc] at same
      rw [decide_eq_true hc]
      have rd4 := Rp.keep (k4.mono (ex' := ex) (by simp)) _ _ rd3
      obtain ⟨d1, ed1, hd1, _⟩ := ent_reads e
      refine iteT ⟨_, rfl, c_of (ent_ix rd4 ed1 hd1 rfl fun vi ri => ?_)⟩
      obtain rfl : vi = .str e.id := ri
      have := q H4 (k1.trans (k2.trans k4))
      rw [same] at this
      exact this
    · rw [if_neg hc] at same
      rw [decide_eq_false hc]
      exact iteF ⟨_, rfl, k2.trans k4, same⟩
  · have ej : j = ys.length := by omega
    refine .inl ⟨ge, ?_⟩
    have := q H2 (k1.trans k2)
    rw [same, ej, ← hfl, Nat.sub_self] at this
    exact this
end
end NV
/-! DcG -/
set_option Elab.async false
set_option linter.all false
set_option maxRecDepth 100000
set_option maxHeartbeats 1000000
/-! a dict comprehension whose dict is told by a state of one's own -/
namespace NV
open PySem PySem.Spec PyProof.Rows
open L2
/-- how a dict is told: as it is new, and what a store does to it -/
structure DictS (P : Program) (w : World) where
  new : Addr → HO
  laid : ∀ {H : Hp} (h : Heap), sysModules < h.objs.size → ObjOk P w (upd H h.objs.size (new h.objs.size)) (h.push { cls := .type "dict", data := .dict #[] }) h.objs.size (new h.objs.size)
  put : Hp → Addr → V → V → Hp → Prop
  run : ∀ {X : Cx} {pins : List (Addr × Obj)} {σ : L2.St} {H H' : Hp} {s : Shared} {D : Addr} {y v : V} {u r : Value} {E : Value → Shared → Prop} {Q : Unit → Shared → Prop}, X.prog = P → X.w = w → Inv X pins σ H s → put H D y v H' → RelV y u → RelV v r → (∀ s', Inv X pins σ H' s' → Q () s') → wpAny (model X.prog X.w) X.A (dictSet D u r) Q E s
section
variable {X : Cx}
def tDcG (S : DictS X.prog X.w) (wi : TI) (g : TG) (tt : TT) (tk tv : TE) (vs : List Nat) : TE := fun σ H Q => wi σ H fun J H1 => ∀ D, H1 D = none → ∃ W : Nat → Nat → Hp → Prop, (∃ m, W 0 m (upd H1 D (S.new D))) ∧ ∀ i m H, W i m H →
  (J.stop i H ∧ Q (.ref D) H) ∨ (J.go i H ∧ ∃ Nx : Hp → Prop, (∀ H', Nx H' → ∃ m', m' < m ∧ W (i + 1) m' H') ∧ ∀ x H', J.yld i H x H' → g x (wipe σ vs) H' fun σ2 H2 => wipe σ2 vs = wipe σ vs ∧ tt σ2 H2 fun b H3 =>
    if b = true then tk σ2 H3 fun y H4 => tv σ2 H4 fun z H5 => ∃ H6, S.put H5 D y z H6 ∧ Nx H6 else Nx H3)
/-- the block of a comprehension -/
abbrev PB (X : Cx) (scope : Scope) (R : Cx → Prop) : Prop := ∀ (s : Shared) (H : Hp) (C : Addr) (cl : List (Str × Addr)) (fp : List Addr), R (X.blk s H scope (compEnvC scope cl C X.env) fp)
theorem dcG_core {pins : List (Addr × Obj)} {s : Shared} {σ : L2.St} {H : Hp} {Q : VK} {S : DictS X.prog X.w} {kx vx tg iter : Expr} {ifs : List Expr} {scope : Scope} {own : List (Str × Nat)} {pos ipos : Pos} {wi : TI} {g : TG} {tt : TT} {tk tv : TE} {use : Option (Value → Sem Unit)} {Qf : Value → Shared → Prop}
    (calm : X.calm = true) (nd : X.N.Nodup) (I : Inv X pins σ H s) (walks : PI X tg iter wi) (ok : BlkOk X.N X.env.scope scope own) (rg : PB X scope fun Y => PG Y tg g) (rt : PB X scope fun Y => PTs Y ifs tt) (rk : PB X scope fun Y => PE Y kx tk) (rv : PB X scope fun Y => PE Y vx tv)
    (flat : ∀ x, foldedSetIterable iter X.env x = pure x) (h : tDcG S wi g tt tk tv (own.map (·.2)) σ H Q)
    (last : ∀ D C s' m H', Inv X pins σ H' s' → Q (.ref D) H' → s'.heap.Ns C m → FpOk X pins H' C → compPost (model X.prog X.w) X.A X.xe use Qf (.ref D) C (.ok .next) s') :
    wpAny (model X.prog X.w) X.A (comprehension (.DictComp kx vx [⟨tg, iter, ifs, 0⟩] scope pos) scope X.env ipos newDict false (eval iter X.env) use) Qf X.xe s := by
  have frees : ∀ y ∈ scope.names, y.2 = .free → ∃ c, X.env.cells.lookup y.1 = some c := fun y hy e => (ok.free y hy e).elim (fun k => I.ok.has _ (.inl k)) fun k => I.ok.has _ (.inr k)
  refine wpAny_comprehension_free (use := use) rfl flat (closure_ok frees) ok.kind (fun y hy e => by rw [ok.uniq y hy, e]) ?_
  refine thn (walks.run pins s σ H _ I h) fun xv sa hx => thn hx fun itv sb hb => ?_
  obtain ⟨it, fp, tn, J, Hb, rfl, Ib, T, stb, fb, q⟩ := hb
  refine wpAny_newObj_type (newEnv_comp ?_)
  obtain ⟨D, eD⟩ : ∃ D, sb.heap.objs.size = D := ⟨_, rfl⟩
  have newD : Hb D = none := Ib.hok.fresh (Nat.le_of_eq eD)
  obtain ⟨W, ⟨m0, w0⟩, turn⟩ := q D newD
  obtain ⟨sc, esc⟩ : ∃ sc : Shared, ({ sb with heap := sb.heap.push { cls := .type "dict", data := .dict #[] } } : Shared) = sc := ⟨_, rfl⟩
  obtain ⟨Hc, eHc⟩ : ∃ Hc, upd Hb D (S.new D) = Hc := ⟨_, rfl⟩
  have Ic : Inv X pins σ Hc sc := by
    rw [← esc, ← eHc]
    refine Ib.laid (t' := sb.toks) (fun b o e => Heap.get?_push_of_some _ e) (Nat.le_of_eq eD) ?_
    rw [← eD]
    exact S.laid sb.heap Ib.big
  have hsc : sc.heap = sb.heap.push { cls := .type "dict", data := .dict #[] } := by rw [← esc]
  have under : ∀ b ∈ fp, b < sb.heap.objs.size := fun b hb => let ⟨o, e, _⟩ := T.obj _ _ stb b hb; Heap.lt_size e
  have fc : ∀ b ∈ fp, FpOk X pins Hc b ∧ b < sc.heap.objs.size := fun b hb => by
    have lt := under b hb
    refine ⟨⟨?_, (fb b hb).2⟩, by rw [hsc, Heap.size_push]; exact Nat.lt_succ_of_lt lt⟩
    rw [← eHc, upd_ne (by rw [← eD]; exact Nat.ne_of_lt lt)]
    exact (fb b hb).1
  have stc : tn 0 sc.heap := T.keep _ _ _ stb fun b _ o e => by rw [hsc]; exact Heap.get?_push_of_some _ e
  have Id_ := block_start Ic ok nd fc
  obtain ⟨cl, ecl⟩ : ∃ cl, cellsFrom (sc.heap.objs.size + 1) scope.names (cloFrom X.env.cells scope.names []) = cl := ⟨_, rfl⟩
  rw [ecl] at Id_
  have pg := rg sc Hc sc.heap.objs.size cl fp
  have pt := rt sc Hc sc.heap.objs.size cl fp
  have pk := rk sc Hc sc.heap.objs.size cl fp
  have pv_ := rv sc Hc sc.heap.objs.size cl fp
  show codeAny _ _ (.compStart (.DictComp kx vx [⟨tg, iter, ifs, 0⟩] scope pos) 0 (.ref it) (.ref sb.heap.objs.size) (compEnvC scope (cellsFrom ((sb.heap.push { cls := .type "dict", data := .dict #[] }).objs.size + 1) scope.names (cloFrom X.env.cells scope.names [])) (sb.heap.push { cls := .type "dict", data := .dict #[] }).objs.size X.env))
    (compPost (model X.prog X.w) X.A X.xe use Qf (.ref sb.heap.objs.size) (sb.heap.push { cls := .type "dict", data := .dict #[] }).objs.size) { sb with heap := pushCells ((sb.heap.push { cls := .type "dict", data := .dict #[] }).push _) scope.names }
  rw [← hsc, eD, ecl]
  have nfp : ∀ b ∈ fp, Hc b = none := fun b hb => (fc b hb).1.1
  rw [eHc] at w0
  obtain ⟨ce, ece⟩ : ∃ ce, compEnvC scope cl sc.heap.objs.size X.env = ce := ⟨_, rfl⟩
  have loc : ce.locals = sc.heap.objs.size := by rw [← ece]; rfl
  rw [ece] at Id_ pg pt pk pv_ ⊢
  obtain ⟨sd, esd⟩ : ∃ sd : Shared, ({ sc with heap := pushCells (sc.heap.push { cls := .type "dict", data := .dict #[] }) scope.names } : Shared) = sd := ⟨_, rfl⟩
  have esd2 : ({ sb with heap := pushCells (sc.heap.push { cls := .type "dict", data := .dict #[] }) scope.names } : Shared) = sd := by rw [← esd, ← esc]
  rw [esd] at Id_
  have std : tn 0 sd.heap := T.keep _ _ _ stc fun b _ o e => by rw [← esd]; exact pushCells_keeps _ _ _ _ (Heap.get?_push_of_some _ e)
  have stat : ∀ {σ' : L2.St} {H' : Hp} {s' : Shared}, Inv (X.blk sc Hc scope ce fp) [] σ' H' s' → (∀ b ∈ fp, H' b = none) → ∀ b ∈ fp, FpOk (X.blk sc Hc scope ce fp) [] H' b := fun {σ' H' s'} I' hn b hb =>
    ⟨hn b hb, (I'.ok.exf b hb).1, I'.ok.exfs b hb, .inl hb, fun x c e => (I'.ok.exf b hb).2 x c e, fun p hp => absurd (show p ∈ ([] : List (Addr × Obj)) ++ [] from hp) (by simp)⟩
  have loop : codeAny (model X.prog X.w) X.A (.compLoop (.DictComp kx vx [⟨tg, iter, ifs, 0⟩] scope pos) 0 (.ref it) (.ref D) ce) (compPost (model X.prog X.w) X.A X.xe use Qf (.ref D) sc.heap.objs.size) sd := by
    refine compLoop_anyD (fun n s' => ∃ i H', Inv (X.blk sc Hc scope ce fp) [] (wipe σ (own.map (·.2))) H' s' ∧ tn i s'.heap ∧ (∀ b ∈ fp, H' b = none) ∧ W i n H') ?_ m0 ⟨0, Hc, Id_, std, nfp, w0⟩
    rintro n se ⟨i, He, Ie, ste, ne, we⟩
    rcases turn i n He we with ⟨stop, done⟩ | ⟨go, Nx, less, step⟩
    · refine thnF (T.done (X.blk sc Hc scope ce fp) rfl rfl rfl calm i [] se _ He (fun _ _ => False) Ie (stat Ie ne) ste stop) fun r sf ⟨hr, If⟩ => ?_
      subst hr
      have Ig : Inv X pins σ He sf := Ic.call' (ch := fp) If.os If.base If.hok If.bare fun b hb => let z := (fc b hb).1; ⟨z.2.2.2.1, z.2.1, z.2.2.2.2.1, z.2.2.2.2.2⟩
      have nC : He sc.heap.objs.size = none := by
        rw [← loc]
        exact If.free
      obtain ⟨m, hn, _⟩ := If.loc
      have hn : sf.heap.Ns ce.locals m := hn
      rw [loc] at hn
      exact last D sc.heap.objs.size sf m He Ig done hn (Ic.fpOk (Nat.le_refl _) nC)
    · refine thnF (T.item (X.blk sc Hc scope ce fp) rfl rfl rfl calm i [] se _ He (fun _ _ => False) Ie (stat Ie ne) ste go) fun r sf ⟨u, hr, hf⟩ => ?_
      subst hr
      refine thnF hf fun _ sg ⟨x, Hg, Ig, rg_, yg, stg, ng⟩ => ?_
      have Ip := Ig.pinned (stat Ig ng) (T.obj _ _ stg)
      refine thnF (pg.run _ sg _ Hg x u _ Ip rg_ (step x Hg yg)) fun _ sh ⟨σh, Hh, Ih, same, qh⟩ => ?_
      refine thnF (pt.run _ sh σh Hh _ Ih qh) fun b si ⟨Hi, Ii, qi⟩ => ?_
      have fin : ∀ {s' : Shared} {H' : Hp}, Inv (X.blk sc Hc scope ce fp) ([] ++ pinsAt fp sg.heap) σh H' s' → Nx H' → ∃ m, m < n ∧ ∃ i H', Inv (X.blk sc Hc scope ce fp) [] (wipe σ (own.map (·.2))) H' s' ∧ tn i s'.heap ∧ (∀ b ∈ fp, H' b = none) ∧ W i m H' := fun {s' H'} I' nx => by
        obtain ⟨m', hm, w'⟩ := less H' nx
        have held : ∀ b ∈ fp, ∀ o, sg.heap.get? b = some o → s'.heap.get? b = some o ∧ H' b = none := fun b hb o e =>
          let z := I'.pin (b, o) (List.mem_append_right _ (List.mem_append_right _ (mem_pinsAt hb e)))
          ⟨z.1, z.2.1⟩
        have len : (wipe σ (own.map (·.2))).length = σh.length := by rw [← same, wipe_length]
        refine ⟨m', hm, i + 1, H', (I'.unpinned (pins := [])).weak len (fun j v e => ?_), T.keep _ _ _ stg fun b hb o e => (held b hb o e).1, fun b hb => ?_, w'⟩
        · rw [← same] at e
          exact (wipe_some e).1
        · obtain ⟨o, e, _⟩ := T.obj _ _ stg b hb
          exact (held b hb o e).2
      cases b with
      | false =>
        rw [if_neg Bool.false_ne_true] at qi
        exact fin Ii qi
      | true =>
        rw [if_pos rfl] at qi
        refine thnF (pk.run _ si σh Hi _ Ii qi) fun z sj ⟨yk, Hj, Ij, rj, qj⟩ => ?_
        refine thnF (pv_.run _ sj σh Hj _ Ij qj) fun z2 sk ⟨yv, Hk, Ik, rk_, Hl, pl, nx⟩ => ?_
        exact S.run (X := X.blk sc Hc scope ce fp) rfl rfl Ik pl rj rk_ fun sl Il => fin Il nx
  rw [esd2]
  exact codeAny_compStart_dict loop (T.self X.A 0 _ _ _ std loop)
theorem pe_dcG (S : DictS X.prog X.w) {kx vx tg iter : Expr} {ifs : List Expr} {scope : Scope} {own : List (Str × Nat)} {pos : Pos} {wi : TI} {g : TG} {tt : TT} {tk tv : TE} (calm : X.calm = true) (nd : X.N.Nodup) (walks : PI X tg iter wi) (ok : BlkOk X.N X.env.scope scope own)
    (rg : PB X scope fun Y => PG Y tg g) (rt : PB X scope fun Y => PTs Y ifs tt) (rk : PB X scope fun Y => PE Y kx tk) (rv : PB X scope fun Y => PE Y vx tv) (flat : ∀ x, foldedSetIterable iter X.env x = pure x := by intro _; rfl) :
    PE X (.DictComp kx vx [⟨tg, iter, ifs, 0⟩] scope pos) (tDcG S wi g tt tk tv (own.map (·.2))) := by
  refine ⟨fun pins s σ H Q I h => ?_⟩
  rw [arm_eval_DictComp]
  refine dcG_core calm nd I walks ok rg rt rk rv flat h fun D C s' m H' J q hn f => ⟨m, hn, fun h2 sb => ?_⟩
  obtain ⟨f0, f1, f2, f3, f4, f5⟩ := f
  exact ⟨.ref D, H', J.turned (t' := s'.toks) (fun b o hb e => (sb.2 b hb).trans e) f0 f1 f3 f4 f5, rfl, q⟩
end
/-! ### keys of which one may be None -/
/-- a dict with the keys of S, at most n -/
def DicN (P : Program) (w : World) (S : Option L2.Key → Prop) (n : Nat) (a : Addr) : HO := .ext fun h => (a == sysModules) = false ∧ ∃ vs : List (Option L2.Key × Value), (∀ k, (valueAt vs k).isSome = true ↔ S k) ∧ vs.length ≤ n ∧ h.DictOf (noneKind P w) a vs
def kN : Option L2.Key → V
  | none => .non
  | some k => kV k
theorem kN_is {P : Program} {w : World} {k : Option L2.Key} {u : Value} (r : RelV (kN k) u) : (noneKind P w).is k u = true := by
  cases k with
  | none =>
    obtain rfl : u = .none := r
    rfl
  | some k => exact kV_is (P := P) (w := w) (k := k) r
theorem dictOf_keep {P : Program} {w : World} {h h' : Heap} {a : Addr} {vs : List (Option L2.Key × Value)} (d : h.DictOf (noneKind P w) a vs) (k : ∀ o, h.get? a = some o → h'.get? a = some o) : h'.DictOf (noneKind P w) a vs := by
  obtain ⟨o, es, ep, ho, r⟩ := d
  exact ⟨o, es, ep, k o ho, r⟩
theorem dicN_ok {P : Program} {w : World} {H : Hp} {h : Heap} {S : Option L2.Key → Prop} {n : Nat} {a : Addr} (hs : (a == sysModules) = false) {vs : List (Option L2.Key × Value)} (e : ∀ k, (valueAt vs k).isSome = true ↔ S k) (l : vs.length ≤ n) (d : h.DictOf (noneKind P w) a vs) : ObjOk P w H h a (DicN P w S n a) := by
  have there : ∃ o, h.get? a = some o := let ⟨o, _, _, ho, _⟩ := d; ⟨o, ho⟩
  exact ⟨⟨hs, vs, e, l, d⟩, there, fun h1 h2 ⟨q, vs, e, l, d⟩ k => ⟨q, vs, e, l, dictOf_keep d k⟩⟩
def dictN (P : Program) (w : World) : DictS P w where
  new := DicN P w (fun _ => False) 0
  laid := fun {H} h hb => dicN_ok (beq_eq_false_iff_ne.mpr (Ne.symm (Nat.ne_of_lt hb))) (vs := []) (fun k => by simp [valueAt]) (Nat.le_refl _) (Heap.DictOf.new h)
  put := fun H D y _ H' => ∃ (S : Option L2.Key → Prop) (n : Nat) (k : Option L2.Key), y = kN k ∧ H D = some (DicN P w S n D) ∧ n < sizeLine ∧ H' = upd H D (DicN P w (fun j => j = k ∨ S j) (n + 1) D)
  run := by
    intro X pins σ H H' s D y v u r E Q hP hw I hp ry rv h
    subst hP hw
    obtain ⟨S, n, k, rfl, e, hn, rfl⟩ := hp
    obtain ⟨⟨hd, vs, e1, l, d⟩, _, _⟩ := I.hok D _ e
    refine wpAny_dictSet_pairs (hsz := by omega) (kN_is ry) d fun h' d' hs => h _ ?_
    have there : ∃ q, h'.get? D = some q := let ⟨q, _, _, hq, _⟩ := d'; ⟨q, hq⟩
    refine d_write (t' := s.toks + 1) (ob := DicN X.prog X.w (fun j => j = k ∨ S j) (n + 1) D) I (by rw [e]; exact True.intro) hs there (dicN_ok hd (fun j => ?_) (Nat.le_trans (stored_length_le vs k r) (show vs.length + 1 ≤ n + 1 by omega)) d')
    rw [valueAt_stored]
    by_cases hj : j = k
    · rw [if_pos hj]
      exact ⟨fun _ => .inl hj, fun _ => rfl⟩
    · rw [if_neg hj, e1]
      exact ⟨.inr, fun z => z.elim (fun q => absurd q hj) id⟩
/-- y in d -/
def tInN (P : Program) (w : World) (ty td : TE) : TE := fun σ H Q => ty σ H fun y H1 => td σ H1 fun x H2 => ∃ (a : Addr) (S : Option L2.Key → Prop) (n : Nat) (k : Option L2.Key) (b : Bool), x = .ref a ∧ y = kN k ∧ H2 a = some (DicN P w S n a) ∧ (b = true ↔ S k) ∧ Q (.bl b) H2
theorem pc_inN {X : Cx} {i o : Expr} {ty td : TE} (P : Program) (w : World) (hi : PE X i ty) (ho : PE X o td) (hP : X.prog = P := by rfl) (hw : X.w = w := by rfl) : PC X .In i o (tInN P w ty td) := by
  subst hP hw
  refine ⟨fun pins s σ H Q I h => ?_⟩
  refine thn (hi.run pins s σ H _ I h) fun iv s1 ⟨y, H1, J, ry, q1⟩ => thn (ho.run pins s1 σ H1 _ J q1) fun u s2 ⟨x, H2, L, rx, a, S, n, k, b, ex, ey, e, hb, q2⟩ => ?_
  subst ex ey
  obtain rfl : u = Value.ref a := rx
  obtain ⟨⟨hd, vs, e1, l, d⟩, _, _⟩ := L.hok a _ e
  refine wpAny_in_of (kN_is ry) hd d.mapOf ?_
  have hv : (valueAt vs k).isSome = b := by
    rw [Bool.eq_iff_iff, e1, hb]
  rw [hv]
  exact ⟨.bl b, H2, L.tok _, rfl, q2⟩
end NV
/-! V8 -/
set_option Elab.async false
set_option linter.all false
set_option maxRecDepth 100000
set_option maxHeartbeats 1000000
/-! the package's writes_in, dependencies, dependency_set, source_of, asked rightly -/
namespace NV
open PySem PySem.Spec PyProof.Rows L2
open C8 (pss_cut pe_gc)
abbrev sWritesIn : Stmt := topS 42
theorem scWritesIn : FnScope ["log", "triples", "sources", "triple", "entry"] ["log", "triples"] (defScope sWritesIn) := ⟨rfl, rfl, rfl, by decide +kernel, rfl, by decide +kernel, by decide +kernel⟩
abbrev sDependencySet : Stmt := topS 44
theorem scDependencySet : FnScope ["log", "target", "retracted"] ["log", "target", "retracted"] (defScope sDependencySet) := ⟨rfl, rfl, rfl, by decide +kernel, rfl, by decide +kernel, by decide +kernel⟩
abbrev sSourceOf : Stmt := topS 45
theorem scSourceOf : FnScope ["log", "reader", "cell", "retracted", "live", "position"] ["log", "reader", "cell", "retracted"] (defScope sSourceOf) := ⟨rfl, rfl, rfl, by decide +kernel, rfl, by decide +kernel, by decide +kernel⟩
/-- a dict comprehension told by a state, by what holds at each turn -/
theorem dcG_inv {P : Program} {w : World} {S : DictS P w} {J : It} {g : TG} {tt : TT} {tk tv : TE} {vs : List Nat} {σ : L2.St} {C : Addr} {H1 : Hp} {Qd : Hp → Prop} (n : Nat) (Pv : Nat → Hp → Prop) (h0 : Pv 0 (upd H1 C (S.new C))) (hd : ∀ H, Pv n H → J.stop n H ∧ Qd H) (hgo : ∀ i H, i < n → Pv i H → J.go i H)
    (hs : ∀ i H x H', i < n → Pv i H → J.yld i H x H' → g x (wipe σ vs) H' fun σ2 H2 => wipe σ2 vs = wipe σ vs ∧ tt σ2 H2 fun b H3 => if b = true then tk σ2 H3 fun y H4 => tv σ2 H4 fun z H5 => ∃ H6, S.put H5 C y z H6 ∧ Pv (i + 1) H6 else Pv (i + 1) H3) :
    ∃ W : Nat → Nat → Hp → Prop, (∃ m, W 0 m (upd H1 C (S.new C))) ∧ ∀ i m H, W i m H →
      (J.stop i H ∧ Qd H) ∨ (J.go i H ∧ ∃ Nx : Hp → Prop, (∀ H', Nx H' → ∃ m', m' < m ∧ W (i + 1) m' H') ∧ ∀ x H', J.yld i H x H' → g x (wipe σ vs) H' fun σ2 H2 => wipe σ2 vs = wipe σ vs ∧ tt σ2 H2 fun b H3 =>
        if b = true then tk σ2 H3 fun y H4 => tv σ2 H4 fun z H5 => ∃ H6, S.put H5 C y z H6 ∧ Nx H6 else Nx H3) := by
  refine ⟨fun i m H => m + i = n ∧ Pv i H, ⟨n, rfl, h0⟩, ?_⟩
  rintro i m H ⟨hm, p⟩
  cases m with
  | zero =>
    obtain rfl : i = n := by omega
    exact .inl (hd H p)
  | succ m => exact .inr ⟨hgo i H (by omega) p, Pv (i + 1), fun H' q => ⟨m, by omega, by omega, q⟩, fun x H' y => hs i H x H' (by omega) p y⟩
def optK : Option Str → Option L2.Key := Option.map Sum.inr
theorem optK_V (o : Option Str) : optV o = kN (optK o) := by cases o <;> rfl
def spWritesIn : Sp := fun vs H Q _ => ∃ (v u : V) (es : List Ent) (rows : List Row) (ex : List Addr), vs = [v, u] ∧ Rp ex H (logD es) v ∧ Rp ex H (.list (rows.map rowD)) u ∧ es.length ≤ 900 ∧ rows.length ≤ 10000 ∧ Live ex H ∧
  ∀ p H', Kp [] H H' → H p = none → H' p = some (.lst ((writesIn es rows).map V.str)) → Q (.ref p) H'
section
variable {P : Program} {w : World} {K : PySem.W.Frag} {mg : Str → Option Value} {base : Heap}
theorem ok_writesin (DWritesIn : Fn K mg "writes_in" sWritesIn ["log", "triples"]) (g1 : ∃ u, mg "ID" = some u ∧ L2.RelV (.int 1) u) : FnOk P w K mg base CX0 1 DWritesIn.f DWritesIn.fd ["log", "triples"] spWritesIn := by
  refine DWritesIn.F.ok scWritesIn (fun vs H Q E h => ?_) (fun cdv A outer s H vs Q E hr h => ?_)
  · obtain ⟨v, u, es, rows, ex, rfl, _⟩ := h
    rfl
  obtain ⟨v, u, es, rows, ex, rfl, rv, ru, h900, hrl, lv, q⟩ := h
  have line : (100000 : Nat) < sizeLine := by decide
  refine ⟨_, pss_cons (ps_set (i := 2) scWritesIn.nd rfl (.inr rfl) (pe_dcG (dictN P w) (own := [("triple", 3)]) (g := gName 3) (tt := tYes) (by rfl) scWritesIn.nd (piListE K (pv 1)) (blkOk_by (N := ["log", "triples", "sources", "triple", "entry"]) (sc := defScope sWritesIn) (by decide +kernel)) (fun _ _ _ _ _ => pg_name (i := 3) scWritesIn.nd rfl (.inl rfl)) (fun _ _ _ _ _ => pts_nil) (fun _ _ _ _ _ => pe_ix (ixtE K) (pv 3) pe_int (fun _ _ => rfl)) (fun _ _ _ _ _ => pe_bl)))
      (pss_one (ps_ret (pe_lc (own := [("entry", 4)]) (g := gName 4) (by rfl) scWritesIn.nd (piTupE K (pv 0)) (blkOk_by (N := ["log", "triples", "sources", "triple", "entry"]) (sc := defScope sWritesIn) (by decide +kernel)) (fun _ _ _ _ _ => (pg_name (i := 4) scWritesIn.nd rfl (.inl rfl))) (fun _ _ _ _ _ => (pts_one (pt_cmp (pc_inN P w (pe_ix (ixtE K) (pv 4) (pe_gc (v := .int 1) rfl g1) (fun _ _ => rfl)) (pv 2))))) (fun _ _ _ _ _ => (pe_ix (ixtE K) (pv 4) (pe_gc (v := .int 1) rfl g1) (fun _ _ => rfl)))))), ?_⟩
  obtain ⟨a, xs, rfl, na, ha, hx⟩ := rv
  obtain ⟨ta, ts, rfl, nta, hta, hts⟩ := ru
  have hl : es.length = xs.length := by
    have := hx.length
    rwa [List.length_map] at this
  have htl : rows.length = ts.length := by
    have := hts.length
    rwa [List.length_map] at this
  refine ⟨_, rfl, ta, rfl, ⟨_, .inl (.inl hta)⟩, fun D nD => ?_⟩
  have naD : a ≠ D := fun z => by rw [z, nD] at ha; cases ha
  have ntD : ta ≠ D := fun z => by rw [z, nD] at hta; cases hta
  have kD : Kp [] H (upd H D ((dictN P w).new D)) := Kp.laid nD
  have hx1 : RpAll (D :: ex) (upd H D ((dictN P w).new D)) (rows.map rowD) ts := RpAll.keep (kD.mono (by simp)) _ _ (RpAll.apart nD _ _ hts)
  refine dcG_inv (S := dictN P w) (J := Itl K ta) ts.length (fun i H' => Kp [D] (upd H D ((dictN P w).new D)) H' ∧ ∃ S : Option L2.Key → Prop, (∀ z : Str, S (some (Sum.inr z)) ↔ srcIn (rows.take i) z = true) ∧ H' D = some (DicN P w S i D))
    ⟨Kp.refl, fun _ => False, fun z => by simp [srcIn], upd_same⟩ ?_ (fun i H' hi ⟨k, _⟩ => ⟨_, _, .inl (.inl (k _ _ (by simpa using ntD) (kD _ _ (by simp) hta))), List.getElem?_eq_getElem hi⟩) ?_
  case refine_2 =>
    rintro i H1 x H2 hi ⟨k, S, hS, hD⟩ ⟨rfl, hxx⟩
    have hxi := hxx _ (.inl (.inl (k _ _ (by simpa using ntD) (kD _ _ (by simp) hta))))
    obtain ⟨d, hd, rd⟩ := RpAll.back hx1 hxi
    obtain ⟨r, hr1, rfl⟩ : ∃ r, rows[i]? = some r ∧ rowD r = d := by
      rw [List.getElem?_map] at hd
      cases h : rows[i]? with
      | none => rw [h] at hd; cases hd
      | some r => rw [h] at hd; exact ⟨r, rfl, Option.some.inj hd⟩
    obtain ⟨ra, rs, rfl, nra, hra, hrs⟩ := Rp.keep (k.mono (by simp)) _ _ rd
    refine ⟨rfl, yes_on ⟨_, rfl, c_of (ixD (j := 2) rfl hra hrs rfl fun vz rz => ?_)⟩⟩
    have ez : vz = kN (optK r.2.2) := by
      rw [← optK_V]
      revert rz
      cases r.2.2 with
      | none => exact fun rz => rz
      | some z => exact fun rz => rz
    refine ⟨_, ⟨S, i, optK r.2.2, ez, hD, by omega, rfl⟩, k.trans (Kp.put (by simp)), _, fun z => ?_, upd_same⟩
    rw [List.take_add_one, hr1]
    unfold srcIn at hS ⊢
    rw [List.any_append, Bool.or_eq_true, hS]
    constructor
    · rintro (h | h)
      · right
        cases ho : r.2.2 with
        | none => rw [ho] at h; cases h
        | some y =>
          rw [ho] at h
          have : z = y := Sum.inr.inj (Option.some.inj h)
          simp [ho, this]
      · exact .inl h
    · rintro (h | h)
      · exact .inr h
      · left
        have h : r.2.2 = some z := by simpa using h
        rw [h]
        rfl
  case refine_1 =>
    rintro H1 ⟨k, S, hS, hD⟩
    rw [← htl, List.take_length] at hS
    refine ⟨⟨_, .inl (.inl (k _ _ (by simpa using ntD) (kD _ _ (by simp) hta))), Nat.le_refl _⟩, ?_⟩
    have k1 : Kp [] H H1 := Kp.drop ((kD.mono (by simp)).trans k) nD
    have ha1 := k1 _ _ (by simp) ha
    have hx2 := RpAll.keep (k1.mono (ex' := ex) (by simp)) _ _ hx
    let d0 : Ent := .qu "" []
    refine ⟨_, rfl, a, rfl, ⟨xs, .inl (.inl ha1)⟩, fun C nC => ?_⟩
    have nDC : D ≠ C := fun z => by rw [z, nC] at hD; cases hD
    have ent : ∀ {j : Nat} {x : V}, xs[j]? = some x → ∃ ee, es.getD j d0 = ee ∧ Rp ex H1 ee.data x := fun {j x} hxj => by
      have hj : j < es.length := by
        have := (List.getElem?_eq_some_iff.mp hxj).1
        omega
      have hej : es[j]? = some (es.getD j d0) := by rw [List.getD_eq_getElem?_getD, List.getElem?_eq_getElem hj]; rfl
      obtain ⟨x', hx', rx⟩ := RpAll.at hx2 (show (es.map Ent.data)[j]? = some (es.getD j d0).data by rw [List.getElem?_map, hej]; rfl)
      rw [hxj] at hx'
      obtain rfl := Option.some.inj hx'
      exact ⟨_, rfl, rx⟩
    refine lc_growT (fun j => srcIn rows (es.getD j d0).id) (fun j => V.str (es.getD j d0).id) (.inl (.inl ha1)) nC (by omega) (fun j x H8 Q8 hxj k8 q8 => ?_) (fun j x H8 Q8 hxj hpj k8 q8 => ?_) fun H8 k8 e8 => ?_
    · obtain ⟨ee, hee, rx⟩ := ent hxj
      rw [hee] at q8
      have r8 := Rp.keep (k8.mono (ex' := C :: ex) (by simp)) _ _ (Rp.apart nC _ _ rx)
      obtain ⟨d1, ed1, hd1, _⟩ := ent_reads ee
      refine ⟨_, rfl, c_of (ent_ix r8 ed1 hd1 rfl fun vi ri => ?_)⟩
      obtain rfl : vi = .str ee.id := ri
      refine ⟨_, rfl, D, S, _, some (Sum.inr ee.id), srcIn rows ee.id, rfl, rfl, k8 _ _ (by simpa using nDC) hD, (hS ee.id).symm, ?_⟩
      exact ⟨_, rfl, q8 _ Kp.refl⟩
    · obtain ⟨ee, hee, rx⟩ := ent hxj
      rw [hee] at q8
      have r8 := Rp.keep (k8.mono (ex' := C :: ex) (by simp)) _ _ (Rp.apart nC _ _ rx)
      obtain ⟨d1, ed1, hd1, _⟩ := ent_reads ee
      refine ⟨_, rfl, c_of (ent_ix r8 ed1 hd1 rfl fun vi ri => ?_)⟩
      obtain rfl : vi = .str ee.id := ri
      exact q8 _ Kp.refl
    · have k18 : Kp [] H1 H8 := Kp.drop k8 nC
      rw [← hl, range_pick es (fun e => srcIn rows e.id) (fun e => V.str e.id) d0] at e8
      have : (es.filter fun e => srcIn rows e.id).map (fun e => V.str e.id) = (writesIn es rows).map V.str := by
        unfold writesIn
        rw [List.map_map]
        rfl
      rw [this] at e8
      exact q C _ (k1.trans k18) (kp_none k1 nC) e8
end
def spDepSet (K : PySem.W.Frag) : Sp := fun vs H Q _ => ∃ (v : V) (t g : Addr) (es : List Ent) (gone : List Str) (b : Bool) (z c : Str) (k : Nat) (ex : List Addr), vs = [v, .ref t, .ref g] ∧ Rp ex H (logD es) v ∧ LogOk es ∧ es.length ≤ 60 ∧ H t = some (.tup [.str z, .str c]) ∧ TargetOk es z c k ∧ Names K b H g gone ∧ GoneOk es gone ∧ gone.length ≤ 1000 ∧ Live ex H ∧
  ∀ p H', Kp [] H H' → H p = none → H' p = some (.lst ((writesIn es (depRows es gone z c k)).map V.str)) → Q (.ref p) H'
/-- a reader that is not retracted, and a cell that it reads -/
structure ReadOk (es : List Ent) (gone : List Str) (z c : Str) (k : Nat) : Prop where
  pos : PosOf es z k
  live : z ∉ gone
  cell : cellB c = true
  reads : ∀ e, es[k]? = some e → c ∈ e.rs
def spSrcOf (K : PySem.W.Frag) : Sp := fun vs H Q _ => ∃ (v : V) (g : Addr) (es : List Ent) (gone : List Str) (b : Bool) (z c : Str) (k : Nat) (ex : List Addr), vs = [v, .str z, .str c, .ref g] ∧ Rp ex H (logD es) v ∧ LogOk es ∧ es.length ≤ 60 ∧ ReadOk es gone z c k ∧ Names K b H g gone ∧ GoneOk es gone ∧ gone.length ≤ 1000 ∧ Live ex H ∧
  ∀ H', Kp [] H H' → Q (optV (shown (es.map (bl gone)) 0 (lastIx (es.map (bl gone)) k c))) H'
/-- the last write among the first k, by its place -/
theorem lastW_shown (es : List Ent) (c : Str) : ∀ k, k ≤ es.length → (lastW (es.take k) c).map Ent.id = shown es 0 (lastIx es k c)
  | 0, _ => rfl
  | k + 1, h => by
    have ih := lastW_shown es c k (by omega)
    obtain ⟨e, he⟩ : ∃ e, es[k]? = some e := ⟨_, List.getElem?_eq_getElem (by omega)⟩
    rw [List.take_add_one, he]
    show (lastW (es.take k ++ [e]) c).map Ent.id = _
    rw [lastW_snoc]
    unfold lastIx
    have hw : wr es k c = decide (c ∈ e.ws) := by unfold wr; rw [he]
    rw [hw]
    by_cases hc : c ∈ e.ws
    · rw [if_pos hc, decide_eq_true hc, if_pos rfl]
      show some e.id = some (nameAt es k)
      unfold nameAt
      rw [he]
    · rw [if_neg hc, decide_eq_false hc, if_neg Bool.false_ne_true]
      exact ih
theorem lastW_cons (e : Ent) (l : List Ent) (c : Str) : lastW (e :: l) c = (lastW l c).or (if c ∈ e.ws then some e else none) := by
  unfold lastW
  rw [List.reverse_cons, List.find?_append]
  congr 1
  rw [List.find?_cons]
  by_cases h : c ∈ e.ws
  · rw [decide_eq_true h, if_pos h]
  · rw [decide_eq_false h, if_neg h]
    rfl
theorem lastW_live (gone : List Str) (c : Str) : ∀ l : List Ent, (lastW (liveB l gone) c).map Ent.id = (lastW (l.map (bl gone)) c).map Ent.id
  | [] => rfl
  | e :: l => by
    have ih := lastW_live gone c l
    rw [List.map_cons, lastW_cons]
    by_cases hg : e.id ∈ gone
    · have h2 : liveB (e :: l) gone = liveB l gone := by unfold liveB; rw [List.filter_cons, if_neg (by simp [hg])]
      have h3 : bl gone e = .wr e.id [] [] none := if_pos hg
      rw [h2, h3, if_neg (by show c ∉ []; simp), ih, Option.or_none]
    · have h2 : liveB (e :: l) gone = e :: liveB l gone := by unfold liveB; rw [List.filter_cons, if_pos (by simp [hg])]
      have h3 : bl gone e = e := if_neg hg
      rw [h2, h3, lastW_cons]
      cases h4 : lastW (liveB l gone) c with
      | none =>
        rw [h4] at ih
        cases h5 : lastW (l.map (bl gone)) c with
        | none => rfl
        | some y => rw [h5] at ih; cases ih
      | some x =>
        rw [h4] at ih
        cases h5 : lastW (l.map (bl gone)) c with
        | none => rw [h5] at ih; cases ih
        | some y => rw [h5] at ih; exact ih
section
variable {P : Program} {w : World} {K : PySem.W.Frag} {mg : Str → Option Value} {base : Heap}
theorem ok_depset (DDependencySet : FnF K mg "dependency_set" sDependencySet) (DDependencies : FnF K mg "dependencies" sDependencies) (DWritesIn : Fn K mg "writes_in" sWritesIn ["log", "triples"]) (BDep : KBn K DDependencies.fd ["log", "target", "retracted"] 2 ["retracted"] (· ++ ·) (· ++ ·))
    (GDependencies : FnOk P w K mg base CX0 8 DDependencies.f DDependencies.fd ["log", "target", "retracted"] (spDeps K)) (GWritesIn : FnOk P w K mg base CX0 1 DWritesIn.f DWritesIn.fd ["log", "triples"] spWritesIn) :
    FnOk P w K mg base CX0 9 DDependencySet.f DDependencySet.fd ["log", "target", "retracted"] (spDepSet K) := by
  refine DDependencySet.F.ok scDependencySet (fun vs H Q E h => ?_) (fun cdv A outer s H vs Q E hr h => ?_)
  · obtain ⟨v, t, g, es, gone, b, z, c, k, ex, rfl, _⟩ := h
    rfl
  obtain ⟨v, t, g, es, gone, b, z, c, k, ex, rfl, rv, ok, h60, ht, tk, ng, gok, hg, lv, q⟩ := h
  refine ⟨_, pss_one (ps_ret (pe_fn DWritesIn GWritesIn hr (pa_cons (pv 0) (pa_cons (pe_q DDependencies BDep GDependencies hr (pa_cons (pv 0) (pa_cons (pv 1) pa_nil)) (pk_cons (pv 2) pk_nil)) pa_nil)))), ?_⟩
  refine ⟨_, rfl, _, rfl, _, rfl, _, rfl, rfl, rfl, v, t, g, es, gone, b, z, c, k, ex, rfl, rv, ok, h60, ht, tk, ng, gok, hg, lv, fun p H1 k1 _ r1 => ?_⟩
  have hrows : (depRows es gone z c k).length ≤ 10000 := by
    unfold depRows
    rw [← rows_live (q := (z, c, k)) tk.pos.le]
    have := back_len (row := (z, c, none)) (l := liveB (es.take k) gone) fun u hu => (ok.ok u (List.mem_of_mem_take (List.mem_filter.mp hu).1)).rs.2
    have h2 : (liveB (es.take k) gone).length ≤ 60 := Nat.le_trans liveB_len (by rw [List.length_take]; omega)
    show (backL (liveB (es.take k) gone) [(z, c, none)]).length ≤ 10000
    omega
  refine ⟨v, .ref p, es, depRows es gone z c k, ex, rfl, Rp.keep (k1.mono (by simp)) _ _ rv, r1, by omega, hrows, lv.kp0 k1, fun p2 H2 k2 n2 e2 => q p2 H2 (k1.trans k2) (kp_none k1 n2) e2⟩
theorem ok_srcof (DSourceOf : FnF K mg "source_of" sSourceOf) (DCheckLog : Fn K mg "check_log" sCheckLog ["log"]) (DCheckRetracted : Fn K mg "check_retracted" sCheckRetracted ["log", "retracted"]) (DCheckReads : Fn K mg "check_reads" sCheckReads ["log", "position", "cell"]) (DPositionIn : Fn K mg "position_in" sPositionIn ["log", "entry_id"]) (DSourceBefore : Fn K mg "source_before" sSourceBefore ["live", "position", "cell"]) (DWithoutRetracted : Fn K mg "without_retracted" sWithoutRetracted ["log", "retracted"])
    (GCheckLog : FnOk P w K mg base CX0 7 DCheckLog.f DCheckLog.fd ["log"] spCheck) (GCheckRetracted : FnOk P w K mg base CX0 2 DCheckRetracted.f DCheckRetracted.fd ["log", "retracted"] (spRetr K)) (GCheckReads : FnOk P w K mg base CX0 4 DCheckReads.f DCheckReads.fd ["log", "position", "cell"] spChecks) (GPositionIn : FnOk P w K mg base CX0 1 DPositionIn.f DPositionIn.fd ["log", "entry_id"] spPos)
    (GSourceBefore : FnOk P w K mg base CX0 2 DSourceBefore.f DSourceBefore.fd ["live", "position", "cell"] spSource) (GWithoutRetracted : FnOk P w K mg base CX0 1 DWithoutRetracted.f DWithoutRetracted.fd ["log", "retracted"] (spWithout K)) :
    FnOk P w K mg base CX0 8 DSourceOf.f DSourceOf.fd ["log", "reader", "cell", "retracted"] (spSrcOf K) := by
  refine DSourceOf.F.ok scSourceOf (fun vs H Q E h => ?_) (fun cdv A outer s H vs Q E hr h => ?_)
  · obtain ⟨v, g, es, gone, b, z, c, k, ex, rfl, _⟩ := h
    rfl
  obtain ⟨v, g, es, gone, b, z, c, k, ex, rfl, rv, ok, h60, rd, ng, gok, hg, lv, q⟩ := h
  refine ⟨_, pss_cons (ps_expr (pe_fn DCheckLog GCheckLog hr (pa_cons (pv 0) pa_nil)))
      (pss_cons (ps_expr (pe_fn DCheckRetracted GCheckRetracted hr (pa_cons (pv 0) (pa_cons (pv 3) pa_nil))))
      (pss_cons (ps_set (i := 4) scSourceOf.nd rfl (.inl rfl) (pe_fn DWithoutRetracted GWithoutRetracted hr (pa_cons (pv 0) (pa_cons (pv 3) pa_nil))))
      (pss_cons (ps_set (i := 5) scSourceOf.nd rfl (.inl rfl) (pe_fn DPositionIn GPositionIn hr (pa_cons (pv 4) (pa_cons (pv 1) pa_nil))))
      (pss_cons (ps_expr (pe_fn DCheckReads GCheckReads hr (pa_cons (pv 4) (pa_cons (pv 5) (pa_cons (pv 2) pa_nil)))))
      (pss_one (ps_ret (pe_fn DSourceBefore GSourceBefore hr (pa_cons (pv 4) (pa_cons (pv 5) (pa_cons (pv 2) pa_nil)))))))))), ?_⟩
  refine ⟨_, rfl, v, es, ex, rfl, rv, ok, h60, fun H1 k1 => ?_⟩
  have up : ∀ {H' : Hp}, Kp [] H H' → Rp ex H' (logD es) v := fun k => Rp.keep (k.mono (by simp)) _ _ rv
  refine ⟨_, rfl, _, rfl, v, g, es, gone, b, ex, rfl, up k1, ng.keep0 k1, by omega, gok, fun H2 k2 => ?_⟩
  have k12 := k1.trans k2
  refine ⟨_, rfl, _, rfl, v, g, es, gone, b, ex, rfl, up k12, ng.keep0 k12, by omega, hg, lv.kp0 k12, fun p H3 k3 r3 => ?_⟩
  have k13 := k12.trans k3
  obtain ⟨hp, htake⟩ := pos_live rd.pos rd.live
  refine ⟨_, rfl, _, rfl, .ref p, liveB es gone, ex, z, _, rfl, r3, hp, fun H4 k4 => ?_⟩
  have r4 := Rp.keep (k4.mono (ex' := ex) (by simp)) _ _ r3
  have hle : (liveB (es.take k) gone).length ≤ (liveB es gone).length := hp.le
  refine ⟨_, rfl, _, rfl, _, rfl, .ref p, liveB es gone, ex, _, c, rfl, r4, hle, rd.cell, fun e he => ?_, ?_⟩
  · rcases rd.pos with ⟨hz, hk⟩ | ⟨hz, ⟨u, hu, hid⟩, _⟩
    · rcases hp with ⟨_, hp⟩ | ⟨hp, _⟩
      · rw [hp, List.getElem?_eq_none (Nat.le_refl _)] at he
        cases he
      · exact absurd hz hp
    · rcases hp with ⟨hp, _⟩ | ⟨_, ⟨u2, hu2, hid2⟩, _⟩
      · exact absurd hp hz
      · rw [he] at hu2
        cases hu2
        have hm : e ∈ es := (List.mem_filter.mp (List.mem_of_getElem? he)).1
        have : e = u := id_inj ok.nd hm (List.mem_of_getElem? hu) (by rw [hid, hid2])
        rw [this]
        exact rd.reads u hu
  · refine ⟨_, rfl, _, rfl, _, rfl, .ref p, liveB es gone, ex, _, c, rfl, r4, hle, Nat.le_trans liveB_len (by omega), lv.kp0 (k13.trans k4), fun H5 k5 => ?_⟩
    have e1 : srcV (lastW ((liveB es gone).take (liveB (es.take k) gone).length) c) = optV (shown (es.map (bl gone)) 0 (lastIx (es.map (bl gone)) k c)) := by
      rw [htake, ← lastW_shown _ _ k (by rw [List.length_map]; exact rd.pos.le), ← List.map_take, ← lastW_live]
      cases lastW (liveB (es.take k) gone) c <;> rfl
    rw [e1]
    exact q H5 ((k13.trans k4).trans k5)
end
end NV
/-! M2a -/
set_option Elab.async false
set_option linter.all false
set_option maxRecDepth 100000
set_option maxHeartbeats 1000000
/-! logs, cut and joined: what needs no costs -/
namespace NV
open PySem PySem.Spec PyProof.Rows L2
theorem DrAt.live {D : Dr} {n : Nat} {H : Hp} (d : DrAt D n H) : Live D.ex H := fun b hb => by
  obtain ⟨_, large, items, left, turn, h1, h2, _⟩ := d
  rcases List.mem_cons.mp hb with z | z
  · rw [z, h1]; exact fun q => nomatch q
  · rw [List.mem_singleton.mp z, h2]; exact fun q => nomatch q
theorem cut_init (xs : List V) : cutV xs none (some (-1)) = xs.take (xs.length - 1) := by
  unfold cutV
  rw [HT.sIx_none]
  show (xs.drop 0).take (((-1 : Int) + (xs.length : Int)).toNat - 0) = _
  rw [List.drop_zero]
  congr 1
  omega
theorem atI_end {xs : List V} {v : V} (h : xs[xs.length - 1]? = some v) : atI xs (-1) = some v := by
  have hl := (List.getElem?_eq_some_iff.mp h).1
  have e : xs = xs.take (xs.length - 1) ++ [v] := by
    have := List.take_append_drop (xs.length - 1) xs
    rw [List.drop_eq_getElem_cons hl] at this
    rw [(List.getElem?_eq_some_iff.mp h).2] at this
    rw [show xs.length - 1 + 1 = xs.length by omega, List.drop_length] at this
    exact this.symm
  rw [e]
  exact atI_last _ v
theorem ixEnd {K : PySem.W.Frag} {ex : List Addr} {H : Hp} {a : Addr} {xs : List V} {ds : List PyData} {d : PyData} {Q : VK} (ha : H a = some (.tup xs)) (hx : RpAll ex H ds xs) (hj : ds[ds.length - 1]? = some d) (q : ∀ v, Rp ex H d v → Q v H) : rIxT K (.ref a) (.int (-1)) H Q := by
  obtain ⟨v, hv, rv⟩ := RpAll.at hx hj
  rw [hx.length] at hv
  exact ⟨a, xs, -1, v, rfl, rfl, .inl (.inl ha), atI_end hv, q v rv⟩
theorem ne_strs {K : PySem.W.Frag} {H : Hp} {a b : Addr} {zs : List Str} {Q : VK} (ha : SqL K H a (zs.map V.str)) (hb : SqL K H b (zs.map V.str)) (oz : ∀ z ∈ zs, PyData.strOk z = true) (q : Q (.bl false) H) : rNeD K (.ref a) (.ref b) H Q := by
  refine ⟨_, _, .lst ha (dpAll_strs zs), .lst hb (dpAll_strs zs), shaped_strs zs oz, shaped_strs zs oz, ?_⟩
  rw [eqv_strs, decide_eq_true rfl]
  exact q
theorem range_get {α : Type} (l : List α) (d : α) : (List.range l.length).map (fun j => l.getD j d) = l := by
  apply List.ext_getElem
  · simp
  · intro j h1 h2
    simp [List.getD_eq_getElem?_getD, List.getElem?_eq_getElem h2]
theorem range_names (es : List Ent) (d : Ent) : ((List.range es.length).filter (fun j => (es.getD j d).isW)).map (fun j => V.str (es.getD j d).id) = ((es.filter Ent.isW).map Ent.id).map V.str := by
  have e := range_get es d
  have h1 : es.filter Ent.isW = ((List.range es.length).filter (fun j => (es.getD j d).isW)).map (fun j => es.getD j d) := by
    conv => lhs; rw [← e]
    rw [List.filter_map]
    rfl
  rw [h1, List.map_map, List.map_map]
  rfl
theorem LogOk.sub {es es' : List Ent} (h : LogOk es) (s : List.Sublist es' es) : LogOk es' := ⟨fun e he => h.ok e (s.subset he), h.nd.sublist (s.map _)⟩
theorem split_at_ {es : List Ent} {k : Nat} {e : Ent} (h : es[k]? = some e) : es = es.take k ++ e :: es.drop (k + 1) := by
  obtain ⟨hk, he⟩ := List.getElem?_eq_some_iff.mp h
  rw [← he, ← List.drop_eq_getElem_cons hk, List.take_append_drop]
theorem split_last {es : List Ent} {e : Ent} (h : es[es.length - 1]? = some e) : es = es.take (es.length - 1) ++ [e] := by
  have hl := (List.getElem?_eq_some_iff.mp h).1
  have := split_at_ h
  rw [show es.length - 1 + 1 = es.length by omega, List.drop_length] at this
  exact this
theorem idB_ok {z : Str} (h : idB z = true) : PyData.strOk z = true := (word_len h).2
theorem Ent.Ok.idOk {e : Ent} (h : e.Ok) : idB e.id = true := by
  cases e with
  | wr id rs ws pr => exact h.1
  | qu id cs => exact h.1
end NV
/-! Y2a -/
set_option Elab.async false
set_option linter.all false
set_option maxRecDepth 100000
set_option maxHeartbeats 600000
/-! calls by keywords; equal logs -/
namespace NV
open PySem PySem.Spec PyProof.Rows L2
open C8 (pss_cut pe_gc)
/-- a def of the top, called with keywords -/
structure FnK (K : PySem.W.Frag) (mg : Str → Option Value) (nm : Str) (st : Stmt) (ps : List Str) (n : Nat) (ks : List Str) : Type where
  f : Addr
  fd : FuncData
  F : Fun K nm nm st f fd
  m : mg nm = some (.ref f)
  b : KBn K fd ps n ks (· ++ ·) (· ++ ·)
section
variable {K : PySem.W.Frag} {h : Heap} {mg : Str → Option Value} {nm : Str} {st : Stmt}
theorem fnk_at {ps ks : List Str} {n : Nat} (X : K.In h) (G : h.Ns mainGlobals mg) (a : At K nm st)
    (hb : ∀ (kV doc pm : Value) (an : Option Addr) (cdv ct : Value) (us ws : List Value), us.length = n → ws.length = ks.length → bindArgs (PySem.W.fnOf nm nm (defArgs st) (defBody st) (defScope st) .none kV doc pm an cdv ct) ⟨us, ks.zip ws⟩ = pure (ps.zip (us ++ ws))) : Nonempty (FnK K mg nm st ps n ks) := by
  obtain ⟨f, oc, od, kV, doc, pm, an, cd, ct, sl, a1, l1, c1, k1⟩ := a
  have F := fun_mk (st := st) l1 c1 k1
  have hb2 : KBn K _ ps n ks (· ++ ·) (· ++ ·) := ⟨fun s us ws _ h1 h2 => .of_eq (hb kV doc pm an cd ct us ws h1 h2), fun r1 r2 => r1.append r2⟩
  exact ⟨⟨f, _, F, PySem.W.mg_of X G a1, hb2⟩⟩
end
section
variable {X : Cx} {nm : Str} {st : Stmt} {ps ks : List Str} {sp : Sp} {e : Expr} {es : List Expr} {kws : List Keyword} {t tk : TA} {p pos : Pos} {j k n : Nat}
theorem pe_fk (D : FnK X.K X.mg nm st ps n ks) (G : FnOk X.prog X.w X.K X.mg X.base CX0 j D.f D.fd ps sp) (hr : Room k X.A) (ha : PA X (e :: es) t) (hkw : PK X kws tk)
    (hk : j ≤ k := by decide) (hg : Gl X nm := by rfl) (hall : ((backToKw pos (keywordEach kws X.env)).all (·.1.isSome)) = true := by rfl) (hks : (backToKw pos (keywordEach kws X.env)).filterMap (·.1) = ks := by rfl) (hdb : (nm == ("__debug__" : Str)) = false := by decide)
    (he : starEach (e :: es) X.env = (false, eval e X.env) :: starEach es X.env := by rfl) (hpl : (((backTo pos (starEach (e :: es) X.env)).any (·.1)) || ((backToKw pos (keywordEach kws X.env)).any (·.1.isNone))) = false := by rfl) :
    PE X (.Call (.Name nm p) (e :: es) kws pos) (tCallN n ks.length sp (· ++ ·) (fun _ _ _ => False) t tk) := pe_callN G (hr.mono hk) hg D.m D.F.kp D.b pass0 ha hkw hall hks hdb he hpl
end
/-! ### equal logs -/
mutual
theorem Rp.dp {K : PySem.W.Frag} {ex : List Addr} {H : Hp} : ∀ (d : PyData) (v : V), niceD d = true → d.canLay0 = true → Rp ex H d v → Dp K H v d
  | .none, _, _, _, h => by obtain rfl : _ = V.non := h; exact .non
  | .bool b, _, _, _, h => by obtain rfl : _ = V.bl b := h; exact .bl b
  | .int i, _, _, _, h => by obtain rfl : _ = V.int i := h; exact .int i
  | .str z, _, _, _, h => by obtain rfl : _ = V.str z := h; exact .str z
  | .list ds, v, n, c, h => by
    obtain ⟨a, xs, rfl, _, ha, hx⟩ := h
    exact .lst (.inl (.inl ha)) (RpAll.dp ds xs (by simpa only [niceD] using n) (by simpa only [PyData.canLay0] using c) hx)
  | .tuple ds, v, n, c, h => by
    obtain ⟨a, xs, rfl, _, ha, hx⟩ := h
    exact .tup (.inl (.inl ha)) (RpAll.dp ds xs (by simpa only [niceD] using n) (by simpa only [PyData.canLay0] using c) hx)
  | .dict kvs, v, _, c, h => by simp only [PyData.canLay0] at c; cases c
theorem RpAll.dp {K : PySem.W.Frag} {ex : List Addr} {H : Hp} : ∀ (ds : List PyData) (vs : List V), niceAll ds = true → PyData.canLayAll0 ds = true → RpAll ex H ds vs → DpAll K H vs ds
  | [], vs, _, _, h => by obtain rfl : vs = [] := h; exact .nil
  | d :: ds, vs, n, c, h => by
    obtain ⟨v, ws, rfl, h1, h2⟩ := h
    simp only [niceAll, Bool.and_eq_true] at n
    simp only [PyData.canLayAll0, Bool.and_eq_true] at c
    exact .cons (Rp.dp d v n.1 c.1 h1) (RpAll.dp ds ws n.2 c.2 h2)
end
theorem lay_names : ∀ zs : List Str, (∀ z ∈ zs, PyData.strOk z = true) → PyData.canLayAll0 (zs.map PyData.str) = true
  | [], _ => rfl
  | z :: zs, h => by
    rw [List.map_cons]
    simp only [PyData.canLayAll0, PyData.canLay0, Bool.and_eq_true]
    exact ⟨h z List.mem_cons_self, lay_names zs fun y hy => h y (List.mem_cons_of_mem _ hy)⟩
theorem lay_cells {l : Nat} {cs : List Str} (h : CellsOk l cs) : PyData.canLayAll0 (cs.map PyData.str) = true := lay_names cs fun z hz => (word_len (h.ok z hz)).2
theorem lay_ent {e : Ent} (h : e.Ok) : e.data.canLay0 = true := by
  have wr : PyData.strOk "write" = true := by decide +kernel
  have qu : PyData.strOk "query" = true := by decide +kernel
  cases e with
  | wr id rs ws pr =>
    obtain ⟨h1, h2, h3, _⟩ := h
    unfold Ent.data
    simp only [PyData.canLay0, PyData.canLayAll0, Bool.and_eq_true]
    refine ⟨wr, idB_ok h1, lay_cells h2, lay_cells h3, ?_, trivial⟩
    cases pr <;> rfl
  | qu id cs =>
    obtain ⟨h1, h2⟩ := h
    unfold Ent.data
    simp only [PyData.canLay0, PyData.canLayAll0, Bool.and_eq_true]
    exact ⟨qu, idB_ok h1, lay_cells h2, trivial⟩
theorem lay_log : ∀ {es : List Ent}, (∀ e ∈ es, e.Ok) → PyData.canLayAll0 (es.map Ent.data) = true
  | [], _ => rfl
  | e :: es, h => by
    rw [List.map_cons]
    simp only [PyData.canLayAll0, Bool.and_eq_true]
    exact ⟨lay_ent (h e List.mem_cons_self), lay_log fun u hu => h u (List.mem_cons_of_mem _ hu)⟩
theorem lay_logD {es : List Ent} (h : ∀ e ∈ es, e.Ok) : (logD es).canLay0 = true := by
  unfold logD
  simp only [PyData.canLay0]
  exact lay_log h
theorem shaped_log {es : List Ent} (h : ∀ e ∈ es, e.Ok) : SeqAt.shaped (logD es) = true := by
  have := (log_nice h).2.1
  unfold SeqAt.shaped
  rw [lay_logD h]
  exact decide_eq_true (by show PyData.depth (.tuple (es.map Ent.data)) ≤ 64; omega)
theorem eq_logs {K : PySem.W.Frag} {ex ex' : List Addr} {H : Hp} {v u : V} {es : List Ent} {Q : VK} (ok : ∀ e ∈ es, e.Ok) (hv : Rp ex H (logD es) v) (hu : Rp ex' H (logD es) u) (q : Q (.bl true) H) : rEqD K v u H Q := by
  refine ⟨_, _, Rp.dp _ _ (log_nice ok).1 (lay_logD ok) hv, Rp.dp _ _ (log_nice ok).1 (lay_logD ok) hu, shaped_log ok, shaped_log ok, ?_⟩
  have e := SeqAt.eqv_refl _ (lay_logD ok)
  unfold logD at e
  rw [e]
  exact q
theorem ne_logs {K : PySem.W.Frag} {ex ex' : List Addr} {H : Hp} {v u : V} {es : List Ent} {Q : VK} (ok : ∀ e ∈ es, e.Ok) (hv : Rp ex H (logD es) v) (hu : Rp ex' H (logD es) u) (q : Q (.bl false) H) : rNeD K v u H Q := by
  refine ⟨_, _, Rp.dp _ _ (log_nice ok).1 (lay_logD ok) hv, Rp.dp _ _ (log_nice ok).1 (lay_logD ok) hu, shaped_log ok, shaped_log ok, ?_⟩
  have e := SeqAt.eqv_refl _ (lay_logD ok)
  unfold logD at e
  rw [e]
  exact q
end NV
/-! Z0 -/
set_option Elab.async false
set_option linter.all false
set_option maxRecDepth 100000
set_option maxHeartbeats 1000000
/-! defs that raise, and their calls; the package's check_log for any data -/
namespace NV
open PySem PySem.Spec PyProof.Rows L2
open C8 (pss_cut pe_gc)
theorem small100 {n : Nat} (h : n ≤ 100) : n ≤ sizeLine := Nat.le_trans h (by decide)
/-- a class of errors over ValueError, made without an __init__ of its own -/
structure Err (K : PySem.W.Frag) (mg : Str → Option Value) (nm : Str) : Type where
  C : Addr
  g : mg nm = some (.ref C)
  x : PySem.W.excIn K C [.type "ValueError", .type "Exception", .type "BaseException", .type "object"] "ValueError.__new__" = true
  k : PySem.W.keepIn K (.ref C) = true
  b : PySem.W.subIn K (.ref C) (.type "BaseException") = some true
  t : PySem.W.typeIn K (.ref C) = some (.type "type")
section
variable {X : Cx} {nm : Str} {e : Expr} {te : TE} {p pos : Pos}
theorem pmk_err (D : Err X.K X.mg nm) (he : PE X e te) (hg : Gl X nm := by rfl) (hs : starEach [e] X.env = (false, eval e X.env) :: starEach [] X.env := by rfl) (hdb : (nm == ("__debug__" : Str)) = false := by decide) :
    PMk X (.Call (.Name nm p) [e] [] pos) (fun σ H Q => te σ H fun _ H1 => Q (.ref D.C) none H1) := SkE.pmk_own1 PySem.F.excBase_ValueError D.x D.g D.k (raises_own D.b D.t) hg he hs hdb
end
section
variable {X : Cx} {E : XK}
/-- what the def raises, what it calls raises too -/
theorem pass_all (tk : Takes X fun cls d _ H => E cls d H) : Passes (L2.CX X.prog X.w) X E := fun pins σ H s e s' I c => passAt tk σ pins H s e s' I c
theorem pe_fx {nm : Str} {st : Stmt} {ps : List Str} {sp : Sp} {e : Expr} {es : List Expr} {t : TA} {p pos : Pos} {j k : Nat} (D : Fn X.K X.mg nm st ps) (G : FnOk X.prog X.w X.K X.mg X.base (L2.CX X.prog X.w) j D.f D.fd ps sp) (hr : Room k X.A) (tk : Takes X fun cls d _ H => E cls d H) (ha : PA X (e :: es) t)
    (hk : j ≤ k := by decide) (hg : Gl X nm := by rfl) (hdb : (nm == ("__debug__" : Str)) = false := by decide) (he : starEach (e :: es) X.env = (false, eval e X.env) :: starEach es X.env := by rfl) (hpl : (backTo pos (starEach es X.env)).any (·.1) = false := by rfl) :
    PE X (.Call (.Name nm p) (e :: es) [] pos) (tCall sp [] E t) := pe_call G (hr.mono hk) hg D.m D.F.kp D.b .nil (pass_all tk) ha hdb he hpl
theorem pe_fkx {nm : Str} {st : Stmt} {ps ks : List Str} {sp : Sp} {e : Expr} {es : List Expr} {kws : List Keyword} {t tk : TA} {p pos : Pos} {j k n : Nat} (D : FnK X.K X.mg nm st ps n ks) (G : FnOk X.prog X.w X.K X.mg X.base (L2.CX X.prog X.w) j D.f D.fd ps sp) (hr : Room k X.A) (tk' : Takes X fun cls d _ H => E cls d H) (ha : PA X (e :: es) t) (hkw : PK X kws tk)
    (hk : j ≤ k := by decide) (hg : Gl X nm := by rfl) (hall : ((backToKw pos (keywordEach kws X.env)).all (·.1.isSome)) = true := by rfl) (hks : (backToKw pos (keywordEach kws X.env)).filterMap (·.1) = ks := by rfl) (hdb : (nm == ("__debug__" : Str)) = false := by decide)
    (he : starEach (e :: es) X.env = (false, eval e X.env) :: starEach es X.env := by rfl) (hpl : (((backTo pos (starEach (e :: es) X.env)).any (·.1)) || ((backToKw pos (keywordEach kws X.env)).any (·.1.isNone))) = false := by rfl) :
    PE X (.Call (.Name nm p) (e :: es) kws pos) (tCallN n ks.length sp (· ++ ·) E t tk) := pe_callN G (hr.mono hk) hg D.m D.F.kp D.b (pass_all tk') ha hkw hall hks hdb he hpl
end
/-- nothing, or an error of the class C -/
def spMay (f : PyData → Bool) (C : Addr) : Sp := fun vs H Q E => ∃ (v : V) (d : PyData) (ex : List Addr), vs = [v] ∧ Rp ex H d v ∧ niceD d = true ∧ (f d = true → ∀ H', Kp [] H H' → Q .non H') ∧ (f d = false → ∀ H', Kp [] H H' → E (.ref C) none H')
section
variable {P : Program} {w : World} {K : PySem.W.Frag} {mg : Str → Option Value} {base : Heap}
theorem ok_checklogX (DCheckLog : Fn K mg "check_log" sCheckLog ["log"]) (DIsLog : Fn K mg "is_log" sIsLog ["value"]) (XL : Err K mg "InvalidLog") (g1 : ∃ u, mg "MOST_ENTRIES" = some u ∧ L2.RelV (.int 60) u)
    (GIsLog : FnOk P w K mg base CX0 6 DIsLog.f DIsLog.fd ["value"] (spAskD logD')) : FnOk P w K mg base (L2.CX P w) 7 DCheckLog.f DCheckLog.fd ["log"] (spMay logD' XL.C) := by
  refine DCheckLog.F.okX scCheckLog (fun vs H Q E h => ?_) (fun cdv A outer s H vs Q E hr h => ?_)
  · obtain ⟨v, d, ex, rfl, _⟩ := h
    rfl
  obtain ⟨v, d, ex, rfl, rv, nd, yes, no⟩ := h
  refine ⟨_, pss_one (ps_if (pt_not (pt_val (pe_fn DIsLog GIsLog hr (pa_cons (pv 0) pa_nil))))
      (pss_one (ps_raise rfl (takes_of rfl rfl rfl rfl) (pmk_err XL (pe_joined (.cons pe_str (.cons (pe_fmt (pe_gc (v := .int 60) rfl g1)) (.cons pe_str .nil)))))))
      pss_nil), ?_⟩
  refine ⟨_, rfl, v, d, ex, rfl, rv, nd, fun H' k => ⟨_, rfl, ?_⟩⟩
  cases hd : logD' d with
  | true => exact iteF (yes hd H' k)
  | false =>
    refine iteT ⟨_, rfl, ?_, .inr ⟨60, rfl, ?_, _, rfl, ?_, _, rfl, ?_, no hd H' k⟩⟩
    · exact small100 (by decide +kernel)
    · decide +kernel
    · exact small100 (by decide +kernel)
    · exact small100 (by decide +kernel)
end
end NV
/-! OwnE -/
set_option Elab.async false
set_option linter.all false
set_option maxRecDepth 100000
set_option maxHeartbeats 600000
/-! raising an error of the package with an __init__ of its own that keeps one value -/
namespace NV
open PySem PySem.Spec PyProof.Rows L2
open C8 (pss_cut pe_gc)
def iniS (c : Stmt) : Stmt := match c with
  | .ClassDef _ _ _ b _ _ _ _ _ _ _ => b.getD 0 (.Pass ⟨0, 0, 0, 0⟩)
  | s => s
/-- a class nm whose __init__ keeps its one argument as f -/
structure ErrI (K : PySem.W.Frag) (mg : Str → Option Value) (nm f : Str) (cs : Stmt) : Type where
  C : Addr
  fI : Addr
  fd : FuncData
  F : Fun K "__init__" (nm ++ ".__init__") (iniS cs) fI fd
  b : Binds K fd ["self", f] []
  g : mg nm = some (.ref C)
  T : OexC K C
  iC : PySem.W.findIn K (.ref C) "__init__" = some (some (.ref fI))
  tI : PySem.W.typeIn K (.ref fI) = some (.type "function")
  no : PySem.W.findIn K (.ref C) f = some none
def spInit (C : Addr) (f : Str) : Sp := fun vs H Q _ => ∃ (a : Addr) (v : V), vs = [.ref a, v] ∧ H a = some (exo a C none) ∧ ∀ dx, H dx = none → dx ≠ a → Q .non (upd (upd H dx (exd dx [(f, v)])) a (exo a C (some dx)))
abbrev sUnknownid : Stmt := topS 3
theorem scUnknownid : FnScope ["self", "entry_id"] ["self", "entry_id"] (defScope (iniS sUnknownid)) := ⟨rfl, rfl, rfl, by decide +kernel, rfl, by decide +kernel, by decide +kernel⟩
abbrev sUnknowncell : Stmt := topS 4
theorem scUnknowncell : FnScope ["self", "cell"] ["self", "cell"] (defScope (iniS sUnknowncell)) := ⟨rfl, rfl, rfl, by decide +kernel, rfl, by decide +kernel, by decide +kernel⟩
abbrev sSealedwrite : Stmt := topS 5
theorem scSealedwrite : FnScope ["self", "entry_id"] ["self", "entry_id"] (defScope (iniS sSealedwrite)) := ⟨rfl, rfl, rfl, by decide +kernel, rfl, by decide +kernel, by decide +kernel⟩
abbrev sDuplicateid : Stmt := topS 6
theorem scDuplicateid : FnScope ["self", "entry_id"] ["self", "entry_id"] (defScope (iniS sDuplicateid)) := ⟨rfl, rfl, rfl, by decide +kernel, rfl, by decide +kernel, by decide +kernel⟩
section
variable {P : Program} {w : World} {K : PySem.W.Frag} {mg : Str → Option Value} {base : Heap}
theorem ok_initUnknownid (D : ErrI K mg "UnknownId" "entry_id" sUnknownid) : FnOk P w K mg base CX0 1 D.fI D.fd ["self", "entry_id"] (spInit D.C "entry_id") := by
  refine D.F.ok scUnknownid (fun vs H Q E h => ?_) (fun cdv A outer s H vs Q E hr h => ?_)
  · obtain ⟨a, v, rfl, _⟩ := h
    rfl
  obtain ⟨a, v, rfl, ha, q⟩ := h
  refine ⟨_, pss_one (ps_ost (pv 0) (pv 1)), ?_⟩
  exact ⟨_, rfl, _, rfl, a, D.C, rfl, D.T, D.no, .inl ⟨ha, fun dx n ne => q dx n ne⟩⟩
theorem ok_initUnknowncell (D : ErrI K mg "UnknownCell" "cell" sUnknowncell) : FnOk P w K mg base CX0 1 D.fI D.fd ["self", "cell"] (spInit D.C "cell") := by
  refine D.F.ok scUnknowncell (fun vs H Q E h => ?_) (fun cdv A outer s H vs Q E hr h => ?_)
  · obtain ⟨a, v, rfl, _⟩ := h
    rfl
  obtain ⟨a, v, rfl, ha, q⟩ := h
  refine ⟨_, pss_one (ps_ost (pv 0) (pv 1)), ?_⟩
  exact ⟨_, rfl, _, rfl, a, D.C, rfl, D.T, D.no, .inl ⟨ha, fun dx n ne => q dx n ne⟩⟩
theorem ok_initSealedwrite (D : ErrI K mg "SealedWrite" "entry_id" sSealedwrite) : FnOk P w K mg base CX0 1 D.fI D.fd ["self", "entry_id"] (spInit D.C "entry_id") := by
  refine D.F.ok scSealedwrite (fun vs H Q E h => ?_) (fun cdv A outer s H vs Q E hr h => ?_)
  · obtain ⟨a, v, rfl, _⟩ := h
    rfl
  obtain ⟨a, v, rfl, ha, q⟩ := h
  refine ⟨_, pss_one (ps_ost (pv 0) (pv 1)), ?_⟩
  exact ⟨_, rfl, _, rfl, a, D.C, rfl, D.T, D.no, .inl ⟨ha, fun dx n ne => q dx n ne⟩⟩
theorem ok_initDuplicateid (D : ErrI K mg "DuplicateId" "entry_id" sDuplicateid) : FnOk P w K mg base CX0 1 D.fI D.fd ["self", "entry_id"] (spInit D.C "entry_id") := by
  refine D.F.ok scDuplicateid (fun vs H Q E h => ?_) (fun cdv A outer s H vs Q E hr h => ?_)
  · obtain ⟨a, v, rfl, _⟩ := h
    rfl
  obtain ⟨a, v, rfl, ha, q⟩ := h
  refine ⟨_, pss_one (ps_ost (pv 0) (pv 1)), ?_⟩
  exact ⟨_, rfl, _, rfl, a, D.C, rfl, D.T, D.no, .inl ⟨ha, fun dx n ne => q dx n ne⟩⟩
end
theorem pe_mono' {X : Cx} {e : Expr} {te : TE} (h : PE X e te) : PE X e (fun σ H Q => ∃ Q0 : VK, (∀ v H', Q0 v H' → Q v H') ∧ te σ H Q0) :=
  ⟨fun pins s σ H Q I ⟨Q0, m, h0⟩ => thn (h.run pins s σ H Q0 I h0) fun u s' ⟨v, H', I', r, q⟩ => ⟨v, H', I', r, m v H' q⟩⟩
section
variable {X : Cx} {nm f : Str} {C fI : Addr} {fd : FuncData} {e : Expr} {te : TE} {p pos : Pos} {k : Nat}
/-- nm(e), to be raised -/
theorem pmk_erri (G : FnOk X.prog X.w X.K X.mg X.base CX0 1 fI fd ["self", f] (spInit C f)) (b : Binds X.K fd ["self", f] []) (g : X.mg nm = some (.ref C)) (T : OexC X.K C) (iC : PySem.W.findIn X.K (.ref C) "__init__" = some (some (.ref fI))) (tI : PySem.W.typeIn X.K (.ref fI) = some (.type "function")) (hr : Room k X.A) (he : PE X e te) (hk : 2 ≤ k := by decide) (hg : Gl X nm := by rfl) (hs : starEach [e] X.env = (false, eval e X.env) :: starEach [] X.env := by rfl) (hdb : (nm == ("__debug__" : Str)) = false := by decide) :
    PMk X (.Call (.Name nm p) [e] [] pos) (fun σ H Q => te σ H fun v H1 => ∀ d H', Kp [] H1 H' → H' d = some (.xd [(f, v)]) → Q (.ref C) (some d) H') := by
  have M := pmk_oex (X := X) (CX := CX0) (x := nm) (C := C) (fI := fI) (k := 1) (fd := fd) (ps := ["self", f]) (sp := spInit C f) (ds := []) (dvs := []) (p := p) (pos := pos) T iC tI G (hr.mono hk) b .nil pass0 hg g (pa_cons (pe_mono' he) pa_nil hs) hdb hs rfl
  intro pins s σ H Q I h
  refine M pins s σ H Q I ?_
  refine ⟨fun v H1 => ∀ d H', Kp [] H1 H' → H' d = some (.xd [(f, v)]) → Q (.ref C) (some d) H', fun v H1 q => ⟨by show 1 ≤ 1000; decide, fun a na => ?_⟩, h⟩
  refine ⟨a, v, rfl, upd_same, fun dx nd ne => ⟨rfl, dx, [(f, v)], upd_same, by rw [upd_ne ne, upd_same], by rw [upd_ne ne] at nd; exact nd, q dx _ (fun b o _ hb => ?_) upd_same⟩⟩
  have nda : H1 dx = none := by rw [upd_ne ne] at nd; exact nd
  have h1 : b ≠ a := fun z => by rw [z, na] at hb; cases hb
  have h2 : b ≠ dx := fun z => by rw [z, nda] at hb; cases hb
  rw [upd_ne h2, del_ne h1, upd_ne h1, upd_ne h2, upd_ne h1]
  exact hb
end
end NV
/-! StrD -/
set_option Elab.async false
set_option linter.all false
set_option maxRecDepth 100000
set_option maxHeartbeats 1000000
/-! a text beside data of any kind: ==, in a tuple or a list of texts -/
namespace NV
open PySem PySem.Spec PyProof.Rows L2
theorem eq_text_dict {A : Around} {s : Shared} {l : Addr} {o : Obj} {es : Array DictEntry} {n : Nat} (b : Str) (u : Tok) (ho : s.heap.get? l = some o) (hc : o.cls = .type "dict") (hd : o.data = .dict es n) (hu : A.units < cLine) : SeqAt.RcAt A s (.str b u) (.ref l) false := fun prog w E Q h => by
  obtain ⟨cls, dd, data, sl⟩ := o
  simp only at hc hd
  subst hc hd
  refine SeqAt.rc_eq_decline_or (k := false) (Ta := "str") (Tb := "dict") (typeIs_str s b u) ⟨_, ho, rfl⟩ (by decide) F.sub_dict_str F.slot_str_eq F.slot_dict_eq_refl (fun _ hq => ?_) (fun _ hq => ?_) (fun _ hq => wpAny_of_eq (rfl : isSame (.str b u) (.ref l) = pure false) hq) (.inr hu) h
  · exact call_meets F.slot_str_eq (typeIs_str s b u) F.entry_str_eq (F.args_str_eq_2 _ _) (str_eq_no b u l es n dd sl) ⟨ho, hq⟩
  · exact call_meets F.slot_dict_eq_refl ⟨_, ho, rfl⟩ F.entry_dict_eq (F.args_dict_eq_2 _ _) (dict_eq_no l es n dd sl b u) ⟨ho, hq⟩
theorem eqb_text_dict {A : Around} {s : Shared} {l : Addr} {o : Obj} {es : Array DictEntry} {n : Nat} (b : Str) (u : Tok) (ho : s.heap.get? l = some o) (hc : o.cls = .type "dict") (hd : o.data = .dict es n) (hu : A.units < cLine) : SeqAt.EqAt A s (.str b u) (.ref l) false := fun prog w E Q h => by
  unfold eqBool
  refine wpAny_holding ?_
  refine wpAny_ite_split (fun hab => absurd (eq_of_beq hab) nofun) (fun _ => ?_)
  exact wpAny_bind (eq_text_dict b u ho hc hd hu prog w E _ (wpAny_truthy_bool h))
section
variable {X : Cx} {pins : List (Addr × Obj)} {σ : L2.St} {H : Hp} {s : Shared} {ex : List Addr}
theorem eq_strD {A : Around} (I : Inv X pins σ H s) (z : Str) (t : Tok) (hu : A.units < cLine) : ∀ (d : PyData) (x : V) (u : Value), Rp ex H d x → RelV x u → SeqAt.EqAt A s (.str z t) u (strD z d) ∧ SeqAt.RcAt A s (.str z t) u (strD z d) := by
  intro d x u hd rx
  match d, hd with
  | .none, hd =>
    obtain rfl : x = .non := hd
    obtain rfl : u = Value.none := rx
    exact ⟨SeqAt.EqAt.str_none z t, SeqAt.RcAt.str_none z t⟩
  | .bool b, hd =>
    obtain rfl : x = .bl b := hd
    obtain rfl : u = Value.bool b := rx
    exact ⟨SeqAt.EqAt.str_bool z t b, SeqAt.RcAt.str_bool z t b⟩
  | .int i, hd =>
    obtain rfl : x = .int i := hd
    obtain ⟨t', rfl⟩ := rx
    exact ⟨SeqAt.EqAt.str_int z t i t', SeqAt.RcAt.str_int z t i t'⟩
  | .str y, hd =>
    obtain rfl : x = .str y := hd
    obtain ⟨t', rfl⟩ := rx
    have e : strD z (.str y) = (z == y) := by
      show decide (y = z) = (z == y)
      by_cases h : y = z
      · subst h; simp
      · rw [decide_eq_false h]
        exact (beq_eq_false_iff_ne.mpr fun q => h q.symm).symm
    rw [e]
    exact ⟨SeqAt.EqAt.str_str z t y t', SeqAt.RcAt.str_str z t y t'⟩
  | .list ds, hd =>
    obtain ⟨a, xs, rfl, _, ha, _⟩ := hd
    obtain rfl : u = Value.ref a := rx
    obtain ⟨its, rv, pl, _⟩ := I.list (.inl (.inl ha))
    exact ⟨SeqAt.EqAt.str_list z t pl.isList hu, SeqAt.RcAt.str_list z t pl.isList hu⟩
  | .tuple ds, hd =>
    obtain ⟨a, xs, rfl, _, ha, _⟩ := hd
    obtain rfl : u = Value.ref a := rx
    obtain ⟨its, rv, pl, _⟩ := I.tuple (.inl (.inl ha))
    exact ⟨SeqAt.EqAt.str_tuple z t pl hu, SeqAt.RcAt.str_tuple z t pl hu⟩
  | .dict kvs, hd =>
    obtain ⟨rfl, a, rfl, _, ha⟩ := hd
    obtain rfl : u = Value.ref a := rx
    obtain ⟨_, o, es, ep, ho, hc, hdt, _⟩ := no_entries I.hok ha
    exact ⟨eqb_text_dict z t ho hc hdt hu, eq_text_dict z t ho hc hdt hu⟩
end
/-- text == data -/
def rEqSD : R2 := fun x y H Q => ∃ (d : PyData) (ex : List Addr) (z : Str), x = .str z ∧ Rp ex H d y ∧ Q (.bl (strD z d)) H
theorem op_eqSD {X : Cx} (hu : X.A.units + 64 < cLine) : OpR X (compareOp .Eq) rEqSD := by
  intro pins s σ H x y v u Q I rx ry h
  obtain ⟨d, ex, z, rfl, hd, q⟩ := h
  obtain ⟨t, rfl⟩ := rx
  exact (eq_strD I z t (by omega) d y u hd ry).2 _ _ _ _ ⟨.bl _, H, I, rfl, q⟩
/-- data in a tuple, in a list of texts -/
def rInSD (K : PySem.W.Frag) (neg : Bool) : R2 := fun x y H Q => ∃ (d : PyData) (ex : List Addr) (zs : List Str) (p : Addr), Rp ex H d x ∧ y = .ref p ∧ (SqL K H p (zs.map V.str) ∨ SqT K H p (zs.map V.str)) ∧ Q (.bl (if neg then !zs.any (fun z => strD z d) else zs.any fun z => strD z d)) H
/-- what is asked of the value of a text -/
def askU (d : PyData) (u : Value) : Bool := match u with
  | .str z _ => strD z d
  | _ => false
theorem any_ask (d : PyData) : ∀ {zs : List Str} {us : List Value}, Vals (zs.map V.str) us → us.any (askU d) = zs.any fun z => strD z d
  | [], _, .nil => rfl
  | z :: zs, _, .cons r t => by
    obtain ⟨t', rfl⟩ := r
    rw [List.any_cons, List.any_cons, any_ask d t]
    rfl
theorem mem_ask {X : Cx} {pins : List (Addr × Obj)} {σ : L2.St} {H : Hp} {s : Shared} {ex : List Addr} {A : Around} (I : Inv X pins σ H s) (hu : A.units < cLine) {d : PyData} {x : V} {v : Value} (hd : Rp ex H d x) (rx : RelV x v) : ∀ {zs : List Str} {us : List Value}, Vals (zs.map V.str) us → ∀ u ∈ us, SeqAt.EqAt A s u v (askU d u)
  | [], _, .nil => fun u hu' => by cases hu'
  | z :: zs, _, .cons r t => fun u hu' => by
    rcases List.mem_cons.mp hu' with e | e
    · obtain ⟨t', e2⟩ := r
      rw [e, e2]
      exact (eq_strD I z t' hu d x v hd rx).1
    · exact mem_ask I hu hd rx t u e
theorem in1_units {A : Around} : A.in1.units = A.units + 1 := rfl
theorem op_inSD {X : Cx} (K : PySem.W.Frag) (hu : X.A.units + 64 < cLine) (hK : X.K = K := by rfl) : OpR X (compareOp .In) (rInSD K false) := by
  rw [← hK]
  intro pins s σ H x y v u Q I rx ry h
  obtain ⟨d, ex, zs, p, hd, rfl, hq, q⟩ := h
  cases ry
  have hu1 : X.A.in1.units < cLine := by rw [in1_units]; omega
  rcases hq with hq | hq
  · obtain ⟨its, r, pl, hz⟩ := I.list hq
    refine SeqAt.in_listAt (askU d) pl.isList (fun w hw => mem_ask I hu1 hd rx r w (by simpa using hw)) ⟨.bl _, H, I, rfl, ?_⟩
    rw [show its.toArray.any (askU d) = its.any (askU d) by simp, any_ask d r]
    exact q
  · obtain ⟨its, r, pl, hz⟩ := I.tuple hq
    refine SeqAt.in_tupleAt (askU d) pl (fun w hw => mem_ask I hu1 hd rx r w (by simpa using hw)) ⟨.bl _, H, I, rfl, ?_⟩
    rw [show its.toArray.any (askU d) = its.any (askU d) by simp, any_ask d r]
    exact q
theorem op_notInSD {X : Cx} (K : PySem.W.Frag) (hu : X.A.units + 64 < cLine) (hK : X.K = K := by rfl) : OpR X (compareOp .NotIn) (rInSD K true) := by
  rw [← hK]
  intro pins s σ H x y v u Q I rx ry h
  obtain ⟨d, ex, zs, p, hd, rfl, hq, q⟩ := h
  cases ry
  have hu1 : X.A.in1.units < cLine := by rw [in1_units]; omega
  rcases hq with hq | hq
  · obtain ⟨its, r, pl, hz⟩ := I.list hq
    refine SeqAt.notIn_listAt (askU d) pl.isList (fun w hw => mem_ask I hu1 hd rx r w (by simpa using hw)) ⟨.bl _, H, I, rfl, ?_⟩
    rw [show its.toArray.any (askU d) = its.any (askU d) by simp, any_ask d r]
    exact q
  · obtain ⟨its, r, pl, hz⟩ := I.tuple hq
    refine SeqAt.notIn_tupleAt (askU d) pl (fun w hw => mem_ask I hu1 hd rx r w (by simpa using hw)) ⟨.bl _, H, I, rfl, ?_⟩
    rw [show its.toArray.any (askU d) = its.any (askU d) by simp, any_ask d r]
    exact q
end NV
/-! PosX -/
set_option Elab.async false
set_option linter.all false
set_option maxRecDepth 100000
set_option maxHeartbeats 1000000
/-! the package's position_in, position_of_write, asked of anything -/
namespace NV
open PySem PySem.Spec PyProof.Rows L2
open C8 (pss_cut pe_gc)
/-! ### where an id stands -/
def posG (z : Str) : List Ent → Nat → Option Nat
  | [], _ => none
  | e :: l, k => if e.id = z then some k else posG z l (k + 1)
def posS (es : List Ent) (z : Str) : Option Nat := if z = "" then some es.length else posG z es 0
def posD (es : List Ent) : PyData → Option Nat
  | .str z => posS es z
  | _ => none
theorem posG_at {z : Str} : ∀ {es : List Ent} {i k : Nat} {e : Ent}, es[i]? = some e → e.id = z → (∀ j e', j < i → es[j]? = some e' → e'.id ≠ z) → posG z es k = some (k + i)
  | [], i, k, e, h, _, _ => by simp at h
  | u :: l, 0, k, e, h, he, _ => by
    obtain rfl : u = e := by simpa using h
    unfold posG
    rw [if_pos he]
    rfl
  | u :: l, i + 1, k, e, h, he, no => by
    have hu : u.id ≠ z := no 0 u (by omega) (by simp)
    unfold posG
    rw [if_neg hu, posG_at (es := l) (i := i) (k := k + 1) (e := e) (by simpa using h) he fun j e' hj h' => no (j + 1) e' (by omega) (by simpa using h')]
    congr 1
    omega
theorem posG_no {z : Str} : ∀ {es : List Ent} {k : Nat}, (∀ e ∈ es, e.id ≠ z) → posG z es k = none
  | [], _, _ => rfl
  | u :: l, k, h => by
    unfold posG
    rw [if_neg (h u List.mem_cons_self)]
    exact posG_no fun e he => h e (List.mem_cons_of_mem _ he)
theorem posG_is {z : Str} : ∀ {es : List Ent} {k m : Nat}, posG z es k = some m → ∃ i e, m = k + i ∧ es[i]? = some e ∧ e.id = z
  | [], _, _, h => by cases h
  | u :: l, k, m, h => by
    unfold posG at h
    by_cases hu : u.id = z
    · rw [if_pos hu] at h
      exact ⟨0, u, (Option.some.inj h).symm, by simp, hu⟩
    · rw [if_neg hu] at h
      obtain ⟨i, e, h1, h2, h3⟩ := posG_is h
      exact ⟨i + 1, e, by omega, by simpa using h2, h3⟩
theorem posS_le {es : List Ent} {z : Str} {k : Nat} (h : posS es z = some k) : k ≤ es.length := by
  unfold posS at h
  by_cases hz : z = ""
  · rw [if_pos hz] at h
    have := Option.some.inj h
    omega
  · rw [if_neg hz] at h
    obtain ⟨i, e, h1, h2, _⟩ := posG_is h
    have := (List.getElem?_eq_some_iff.mp h2).1
    omega
theorem posD_le {es : List Ent} {d : PyData} {k : Nat} (h : posD es d = some k) : k ≤ es.length := by
  cases d with
  | str z => exact posS_le h
  | _ => cases h
/-- what stands at k < length is found by its id -/
theorem posS_of {es : List Ent} {k : Nat} {e : Ent} (nd : (es.map Ent.id).Nodup) (h : es[k]? = some e) (hz : e.id ≠ "") : posS es e.id = some k := by
  unfold posS
  rw [if_neg hz, posG_at h rfl, Nat.zero_add]
  intro j e' hj hj' q
  have h1 : (es.map Ent.id)[j]? = some e.id := by rw [List.getElem?_map, hj', ← q]; rfl
  have h2 : (es.map Ent.id)[k]? = some e.id := by rw [List.getElem?_map, h]; rfl
  have hk : k < (es.map Ent.id).length := (List.getElem?_eq_some_iff.mp h2).1
  obtain ⟨hj2, g1⟩ := List.getElem?_eq_some_iff.mp h1
  obtain ⟨hk2, g2⟩ := List.getElem?_eq_some_iff.mp h2
  have pw := List.nodup_iff_pairwise_ne.mp nd
  rw [List.pairwise_iff_getElem] at pw
  exact pw j k hj2 hk2 hj (by rw [g1, g2])
def spPosX (CI : Addr) : Sp := fun vs H Q E => ∃ (v u : V) (es : List Ent) (d : PyData) (ex : List Addr), vs = [v, u] ∧ Rp ex H (logD es) v ∧ Rp ex H d u ∧
  (∀ k : Nat, posD es d = some k → ∀ H', Kp [] H H' → Q (.int (k : Nat)) H') ∧ (posD es d = none → ∀ dd H', Kp [] H H' → H' dd = some (.xd [("entry_id", u)]) → E (.ref CI) (some dd) H')
section
variable {P : Program} {w : World} {K : PySem.W.Frag} {mg : Str → Option Value} {base : Heap}
theorem ok_posX (DPositionIn : Fn K mg "position_in" sPositionIn ["log", "entry_id"]) (XI : ErrI K mg "UnknownId" "entry_id" sUnknownid) (GI : FnOk P w K mg base CX0 1 XI.fI XI.fd ["self", "entry_id"] (spInit XI.C "entry_id")) (b_len : mg "len" = none) (b_enumerate : mg "enumerate" = none) (gE : ∃ u, mg "END" = some u ∧ L2.RelV (.str "") u) (g1 : ∃ u, mg "ID" = some u ∧ L2.RelV (.int 1) u) :
    FnOk P w K mg base (L2.CX P w) 3 DPositionIn.f DPositionIn.fd ["log", "entry_id"] (spPosX XI.C) := by
  refine DPositionIn.F.okX scPositionIn (fun vs H Q E h => ?_) (fun cdv A outer s H vs Q E hr h => ?_)
  · obtain ⟨v, u, es, d, ex, rfl, _⟩ := h
    rfl
  obtain ⟨v, u, es, d, ex, rfl, rv, ru, yes, no⟩ := h
  refine ⟨_, pss_cons (ps_if (pt_cmpR (op_eqDS hr.units) (pv 1) (pe_gc (v := .str "") rfl gE) (nomark _))
      (pss_one (ps_ret (pe_callB (lenE K) (by rfl) b_len (by decide +kernel) (pa_cons (pv 0) pa_nil))))
      pss_nil)
      (pss_cons (ps_for (passes_of rfl) rfl (pi_enumT K (by rfl) b_enumerate (pa_cons (pv 0) pa_nil)) (pg_tupE K (by rfl) (pgs_cons (pg_name (i := 2) scPositionIn.nd rfl (.inl rfl)) (pgs_cons (pg_name (i := 3) scPositionIn.nd rfl (.inl rfl)) pgs_nil)))
      (pss_one (ps_if (pt_cmpR (op_eqSD hr.units) (pe_ix (ixtE K) (pv 3) (pe_gc (v := .int 1) rfl g1) (fun _ _ => rfl)) (pv 1) (nomark _))
      (pss_one (ps_ret (pv 2)))
      pss_nil)))
      (pss_one (ps_raise rfl (takes_of rfl rfl rfl rfl) (pmk_erri GI XI.b XI.g XI.T XI.iC XI.tI hr (pv 1))))), ?_⟩
  obtain ⟨a, xs, rfl, na, ha, hx⟩ := rv
  have hl : es.length = xs.length := by
    have := hx.length
    rwa [List.length_map] at this
  refine ⟨_, rfl, d, ex, "", rfl, ru, _, rfl, ?_⟩
  cases h0 : strD "" d with
  | true =>
    obtain rfl := strD_iff.mp h0
    refine iteT ⟨_, rfl, a, xs, rfl, .inr (.inl (.inl ha)), ?_⟩
    rw [← hl]
    exact yes es.length (by show posS es "" = _; unfold posS; rw [if_pos rfl]) H Kp.refl
  | false =>
    refine iteF ⟨_, rfl, a, xs, rfl, .inl (.inl ha), for_enumT (K := K) (a := a) (xs := xs) (fun i σ H' => ∃ c2 c3 : Option V, σ = [some (.ref a), some u, c2, c3] ∧ Kp [] H H' ∧ ∀ j e', j < i → es[j]? = some e' → strD e'.id d = false) ⟨none, none, rfl, Kp.refl, fun j e' hj => absurd hj (by omega)⟩ ?_ ?_ ?_⟩
    · rintro i σ H' ⟨_, _, _, k', _⟩
      exact .inl (.inl (k' _ _ (by simp) ha))
    · rintro i x T σ H1 hxi ⟨c2, c3, rfl, k1, before⟩ nT
      have kT : Kp [] H1 (upd H1 T (.tup [.int (i : Nat), x])) := Kp.laid nT
      have hT : (upd H1 T (.tup [.int (i : Nat), x])) T = some (.tup [.int (i : Nat), x]) := upd_same
      obtain ⟨e', he'⟩ : ∃ e', es[i]? = some e' := ⟨_, List.getElem?_eq_getElem (by have := (List.getElem?_eq_some_iff.mp hxi).1; omega)⟩
      obtain ⟨x', hx', rx⟩ := RpAll.at hx (show (es.map Ent.data)[i]? = some e'.data by rw [List.getElem?_map, he']; rfl)
      rw [hxi] at hx'
      obtain rfl := Option.some.inj hx'
      have k2 := k1.trans kT
      have rx2 := Rp.keep (k2.mono (ex' := ex) (by simp)) _ _ rx
      have ru2 := Rp.keep (k2.mono (ex' := ex) (by simp)) _ _ ru
      obtain ⟨d1, ed1, hd1, _⟩ := ent_reads e'
      refine ⟨T, _, rfl, .inl (.inl hT), rfl, _, _, rfl, _, _, rfl, rfl, ?_⟩
      refine ⟨_, rfl, c_of (ent_ix rx2 ed1 hd1 rfl fun vi ri => ?_)⟩
      obtain rfl : vi = .str e'.id := ri
      refine ⟨_, rfl, d, ex, e'.id, rfl, ru2, _, rfl, ?_⟩
      cases hs : strD e'.id d with
      | true =>
        obtain rfl := strD_iff.mp hs
        have hz : e'.id ≠ "" := fun z => by rw [z] at h0; simp [strD] at h0
        have hp : posD es (.str e'.id) = some i := by
          show posS es e'.id = some i
          unfold posS
          rw [if_neg hz, posG_at he' rfl, Nat.zero_add]
          intro j e2 hj h2 q
          have := before j e2 hj h2
          rw [q] at this
          simp [strD] at this
        exact iteT ⟨_, rfl, yes i hp _ k2⟩
      | false =>
        refine iteF ⟨_, _, rfl, k2, fun j e2 hj h2 => ?_⟩
        by_cases hji : j = i
        · subst hji
          rw [he'] at h2
          obtain rfl := Option.some.inj h2
          exact hs
        · exact before j e2 (by omega) h2
    · rintro σ H1 ⟨c2, c3, rfl, k1, before⟩
      have hp : posD es d = none := by
        cases d with
        | str z =>
          show posS es z = none
          have hz : z ≠ "" := fun q => by rw [q] at h0; simp [strD] at h0
          unfold posS
          rw [if_neg hz]
          refine posG_no fun e he q => ?_
          obtain ⟨j, hj, h2⟩ := List.getElem_of_mem he
          have := before j e (by omega) (by rw [List.getElem?_eq_getElem hj, h2])
          rw [q] at this
          simp [strD] at this
        | _ => rfl
      exact ⟨_, rfl, fun dd H' k h => no hp dd H' (k1.trans k) h⟩
end
end NV
/-! KeepEx -/
set_option Elab.async false
set_option linter.all false
set_option maxRecDepth 100000
set_option maxHeartbeats 1000000
/-! try .. except E as e: .. with what follows it: the caught object stays pinned -/
namespace NV
open PySem PySem.Spec PyProof.Rows
open L2
/-- statements that are never reached -/
theorem pss_dead {X : Cx} (l : List Stmt) : PSs X l (fun _ _ _ => False) := ⟨fun _ _ _ _ _ _ h => h.elim⟩
section
variable {X : Cx} {pins pn' : List (Addr × Obj)} {σ : L2.St} {H : Hp} {s : Shared}
theorem inv_unkeep {q : Addr × Obj} {xe : Value → Shared → Prop} (ok : X.Ok) (I : Inv (X.tr (q :: (X.pn ++ pins)) xe) pn' σ H s) : Inv X pins σ H s where
  ok := ok
  os := I.os
  bare := I.bare
  base := I.base
  loc := I.loc
  cell := I.cell
  free := I.free
  freeC := I.freeC
  pin := fun p hp => by
    refine I.pin p ?_
    show p ∈ (q :: (X.pn ++ pins)) ++ pn'
    exact List.mem_append_left pn' (List.mem_cons_of_mem q hp)
  hok := I.hok
  len := I.len
theorem inv_keep {a : Addr} {q : Addr × Obj} (ok : X.Ok) (I : Inv (X.suite a (q :: (X.pn ++ pins))) pn' σ H s) : Inv (X.tr (q :: (X.pn ++ pins)) X.xe) [] σ H s where
  ok := ok.toTry _ _
  os := I.os
  bare := I.bare
  base := I.base
  loc := I.loc
  cell := I.cell
  free := I.free
  freeC := I.freeC
  pin := fun p hp => by
    refine I.pin p ?_
    show p ∈ (q :: (X.pn ++ pins)) ++ pn'
    rw [List.append_nil] at hp
    exact List.mem_append_left pn' hp
  hok := I.hok
  len := I.len
/-- behind the statement: as usual, or with the caught object pinned -/
def KeepP (X : Cx) (pins : List (Addr × Obj)) (D : Ends) (M : Addr → Value → Option Addr → L2.St → Hp → Prop) (f : Flow) (s : Shared) : Prop :=
  SP X pins D f s ∨ (f = .next ∧ ∃ (a : Addr) (oe : Obj) (cls : Value) (d : Option Addr) (σ' : L2.St) (H' : Hp), Zc cls d oe ∧ (∃ vs, oe.data = .fields vs) ∧ Inv (X.tr ((a, oe) :: (X.pn ++ pins)) X.xe) [] σ' H' s ∧ M a cls d σ' H')
/-- what the clause wishes of an exception of the body -/
def wKeep (K : PySem.W.Frag) (c : Value) (i : Nat) (ts : Addr → Value → Option Addr → TS) (Wout : WX) (M : Addr → Value → Option Addr → L2.St → Hp → Prop) : WX := fun cls d σ H =>
  ∃ b, PySem.W.exmOne K cls c = some b ∧ (b = false → Wout cls d σ H) ∧
    (b = true → ∀ a, H a = none → ts a cls d { nx := fun σ' H' => M a cls d (σ'.set i none) H', rt := fun _ _ => False, bk := fun _ _ => False, ct := fun _ _ => False } (σ.set i (some (.ref a))) H)
end
section
variable {X : Cx} {x n : Str} {c : Value} {i : Nat} {body suite : List Stmt} {b₀ : Stmt} {np pos pos' : Pos} {tb : WX → TS} {ts : Addr → Value → Option Addr → TS} {Wout : WX}
theorem keep_try (hs : X.stack = X.env :: X.outer) (hf : X.env.frame = some X.env.locals) (hN : X.N.Nodup) (hi : X.N[i]? = some n) (hln : X.env.kindOf n = some .local) (hc : L2.Names X x c)
    (tk : Takes X Wout) (hb : ∀ (W : WX) (pn : List (Addr × Obj)) (xe : Value → Shared → Prop), Takes (X.tr pn xe) W → PassesOwn (model X.prog X.w) X.A X.env xe → PSs (X.tr pn xe) body (tb W))
    (hsu : ∀ (a : Addr) (oe : Obj) (cls : Value) (d : Option Addr) (pn : List (Addr × Obj)), Zc cls d oe → (∃ vs, oe.data = .fields vs) → PSs (X.suite a ((a, oe) :: pn)) (b₀ :: suite) (ts a cls d))
    {pins : List (Addr × Obj)} {σ : L2.St} {H : Hp} {s : Shared} (D : Ends) (M : Addr → Value → Option Addr → L2.St → Hp → Prop) (I : Inv X pins σ H s) (h : tb (wKeep X.K c i ts Wout M) D σ H) :
    wpAny (model X.prog X.w) X.A (exec (.Try body [.ExceptHandler (some (.Name x np)) (some n) (b₀ :: suite) pos'] [] [] pos) X.env) (KeepP X pins D M) X.xe s := by
  have ok := I.ok
  have hfr : X.A.frames = some (X.env :: X.outer) := by
    rw [ok.frames, hs]
  have hloc : Loc X.env.scope n := Or.inl hln
  refine wpAny_Try_except ?_
  let xe' : Value → Shared → Prop := fun e s₁ => wpAny (model X.prog X.w) X.A (noteFrame e X.env)
    (fun _ s₂ => wpAny (model X.prog X.w) X.A (setFlight e none)
      (fun _ s₃ => wpAny (model X.prog X.w) X.A
        (handleBy e X.env [.ExceptHandler (some (.Name x np)) (some n) (b₀ :: suite) pos'])
        (KeepP X pins D M) X.xe s₃) X.xe s₂) X.xe s₁
  have takes : Takes (X.tr (X.pn ++ pins) xe') (wKeep X.K c i ts Wout M) := by
    rintro _ t ⟨a, G, sI, ps', τ, Ha, cls, d, rfl, Ia, ng, us, sk, na, ho, hg, m, hm, hno, hyes⟩
    have Ib : Inv X pins τ Ha sI := Ia.ofTry ok
    rw [show (X.tr (X.pn ++ pins) xe').stack = X.env :: X.outer from hs] at sk
    refine Sky.land Zc.steady hfr hf sk ?_
    intro g1 fl1 u1
    have I1 : Inv X pins τ Ha { t with heap := g1 } := Ib.landed ng fl1.1 (us.trans u1) ho hg
    obtain ⟨o1, vs1, he1, hz1, hd1⟩ := fl1.there
    have out : a ∉ frs (X.env :: X.outer) := by
      intro y
      obtain ⟨_, o2, e2, no⟩ := fl1.2.2.1.mem y
      rw [he1] at e2
      obtain rfl := Option.some.inj e2
      exact no _ hd1
    have aL : a ≠ X.env.locals := by
      intro y
      refine out (List.mem_filterMap.mpr ⟨X.env, ?_, ?_⟩)
      · simp
      · rw [hf, y]
    have aF : a ∉ X.fs := by
      intro y
      obtain ⟨v, hv, q⟩ := List.mem_filterMap.mp y
      refine out (List.mem_filterMap.mpr ⟨v, ?_, q⟩)
      simp [hv]
    have S1 := I1.suite he1 hd1 na aL aF
    refine wpAny_handleBy_cons ?here ?other
    case other =>
      intro y
      cases y
    refine codeAny_handlers_test ?_
    have ty1 : PySem.W.Looks (model X.prog X.w) g1 (typeOf (.ref a)) cls := by
      intro A1 Q1 E1 s1 k1 q1
      refine wpAny_typeOf_ref (k1 _ _ he1) ?_
      rw [hz1.1]
      exact q1
    have which := PySem.W.exm_one (M := model X.prog X.w) I1.kIn ty1 hm
    have name : ∀ {Q : Value → Shared → Prop} {E : Value → Shared → Prop}, Q c { t with heap := g1 } →
        wpAny (model X.prog X.w) (X.A.mark (some (.ref a))) (eval (.Name x np) X.env) Q E { t with heap := g1 } := by
      intro Q E q
      obtain ⟨c1, c2, c3⟩ := hc
      rcases c3 with c3 | ⟨c3, c4, c5⟩
      · exact ld_glob (X := X.suite a ((a, o1) :: (X.pn ++ pins))) S1 c1 c3 q c2
      · exact ld_blt (X := X.suite a ((a, o1) :: (X.pn ++ pins))) S1 c1 c3 c4 q c5 c2
    refine name (which.here ?_)
    cases m with
    | true =>
      refine codeAny_handlers_suite_as ?_
      refine HandSPX.lands_againZ fl1 ?_
      intro g2 fl2 u2
      have I2 : Inv X pins τ Ha { t with heap := g2 } := Ib.landed ng fl2.1 (us.trans (u1.trans u2)) ho hg
      obtain ⟨o2, vs2, he2, hz2, hd2⟩ := fl2.there
      have S2 := I2.suite he2 hd2 na aL aF
      refine store_ok (X := X.suite a ((a, o2) :: (X.pn ++ pins))) (v := .ref a) S2 hN hi hloc rfl ?_ (.inr hln)
      intro s5 S5
      have go := (hsu a o2 cls d (X.pn ++ pins) hz2 ⟨_, hd2⟩).run [] s5 _ Ha _ S5 (hyes rfl a na)
      refine wpAny_mono go ?_ fun _ _ y => y.elim
      intro f s6 sp6
      cases f with
      | next =>
        obtain ⟨τ6, H6, S6, q6⟩ := sp6
        refine gone_ok (X := X.tr ((a, o2) :: (X.pn ++ pins)) X.xe) (inv_keep ok S6) hN hi hln ?_
        intro s7 I7
        exact .inr ⟨rfl, a, o2, cls, d, _, _, hz2, ⟨_, hd2⟩, I7, q6⟩
      | brk => exact sp6.elim fun _ y => y.elim fun _ y => y.2.elim
      | cont => exact sp6.elim fun _ y => y.elim fun _ y => y.2.elim
      | ret u => exact sp6.elim fun _ y => y.elim fun _ y => y.elim fun _ y => y.2.2.elim
    | false =>
      have w1 := hno rfl
      refine wpAny_handleBy_nil ?_
      obtain ⟨_, _, _, o2, vs2, tb2, _, _, he2, hz2, hd2, hn2, _⟩ := id fl1
      unfold PySem.passOn
      refine wpAny_bind (wpAny_field he2 hd2 hn2 ?_)
      have notN : ¬ ((Value.ref tb2 == Value.none) = true) := by simp
      rw [if_neg notN]
      have off : wpAny (model X.prog X.w) X.A (setFlight (.ref a) X.env.frame)
          (fun _ s4 => wpAny (model X.prog X.w) X.A (throw (.ref a) : Sem Flow) (KeepP X pins D M) X.xe s4)
          X.xe { t with heap := g1 } := by
        rw [hf]
        refine HandSPX.setFlight_upZ fl1 ?_
        intro g2 held u2
        refine wpAny_throw (tk _ _ ?_)
        refine ⟨a, G, sI, pins, τ, Ha, cls, d, rfl, Ib, ng, us.trans (u1.trans u2), ?_, na, ho, hg, w1⟩
        rw [hs]
        exact .inr (.inr held)
      first
        | exact wpAny_bind off
        | exact wpAny_bind (wpAny_pure (wpAny_bind off))
  have run := (hb (wKeep X.K c i ts Wout M) (X.pn ++ pins) xe' takes PassesOwn.looking).run [] s σ H D (I.toTry _) h
  refine wpAny_mono run ?_ ?_
  · intro f s1 hsp
    cases f with
    | next =>
      obtain ⟨σ', H', J', q⟩ := hsp
      exact wpAny_execs_nil (.inl ⟨σ', H', J'.ofTry ok, q⟩)
    | brk =>
      obtain ⟨σ', H', J', q⟩ := hsp
      exact .inl ⟨σ', H', J'.ofTry ok, q⟩
    | cont =>
      obtain ⟨σ', H', J', q⟩ := hsp
      exact .inl ⟨σ', H', J'.ofTry ok, q⟩
    | ret u =>
      obtain ⟨v, σ', H', J', r, q⟩ := hsp
      exact .inl ⟨v, σ', H', J'.ofTry ok, r, q⟩
  · exact fun e s1 he => he
/-- the statement, and all that follows it in the same block -/
theorem pss_keep {rest : List Stmt} {tr : TS} {te : Addr → Value → Option Addr → TS} (hs : X.stack = X.env :: X.outer) (hf : X.env.frame = some X.env.locals) (hN : X.N.Nodup) (hi : X.N[i]? = some n) (hln : X.env.kindOf n = some .local) (hc : L2.Names X x c)
    (tk : Takes X Wout) (hb : ∀ (W : WX) (pn : List (Addr × Obj)) (xe : Value → Shared → Prop), Takes (X.tr pn xe) W → PassesOwn (model X.prog X.w) X.A X.env xe → PSs (X.tr pn xe) body (tb W))
    (hsu : ∀ (a : Addr) (oe : Obj) (cls : Value) (d : Option Addr) (pn : List (Addr × Obj)), Zc cls d oe → (∃ vs, oe.data = .fields vs) → PSs (X.suite a ((a, oe) :: pn)) (b₀ :: suite) (ts a cls d))
    (hr : PSs X rest tr) (hk : ∀ (a : Addr) (oe : Obj) (cls : Value) (d : Option Addr) (pn : List (Addr × Obj)), Zc cls d oe → (∃ vs, oe.data = .fields vs) → PSs (X.tr ((a, oe) :: pn) X.xe) rest (te a cls d)) :
    PSs X (.Try body [.ExceptHandler (some (.Name x np)) (some n) (b₀ :: suite) pos'] [] [] pos :: rest) (fun D σ H => tb (wKeep X.K c i ts Wout fun a cls d σ' H' => te a cls d D σ' H') { D with nx := tr D } σ H) := by
  refine ⟨fun pins s σ H D I h => ?_⟩
  have ok := I.ok
  refine wpAny_execs_cons (thn (keep_try hs hf hN hi hln hc tk hb hsu { D with nx := tr D } _ I h) ?_)
  intro f s1 q
  rcases q with q | ⟨rfl, a, oe, cls, d, σ', H', hz, hd, I', m⟩
  · cases f with
    | next =>
      obtain ⟨σ', H', I', q⟩ := q
      exact hr.run pins s1 σ' H' D I' q
    | brk => exact q
    | cont => exact q
    | ret u => exact q
  · have go := (hk a oe cls d (X.pn ++ pins) hz hd).run [] s1 σ' H' D I' m
    refine thn go ?_
    intro f s2 y
    cases f with
    | next => exact y.imp fun _ z => z.imp fun _ w => ⟨inv_unkeep ok w.1, w.2⟩
    | brk => exact y.imp fun _ z => z.imp fun _ w => ⟨inv_unkeep ok w.1, w.2⟩
    | cont => exact y.imp fun _ z => z.imp fun _ w => ⟨inv_unkeep ok w.1, w.2⟩
    | ret u => exact y.imp fun _ z => z.imp fun _ z => z.imp fun _ w => ⟨inv_unkeep ok w.1, w.2⟩
end
end NV
/-! IsEx -/
set_option Elab.async false
set_option linter.all false
set_option maxRecDepth 100000
set_option maxHeartbeats 4000000
/-! isinstance and attributes of a caught error with a dict of its own, where it is pinned -/
namespace NV
open PySem PySem.Spec PySem.W PySem.Calls PyProof.Rows
section
variable {prog : Program} {w : World} {A : Around} {E : Value → Shared → Prop} {s : Shared} {K : Frag} {x D : Addr} {ox : Obj} {od : Option Obj}
/-- __class__ is a data descriptor: the instance's own dict is not asked -/
theorem find_class (C : L2.ExcC K D) : findObj K D od "__class__" = some (.bind (.builtin "getset_descriptor.__get__") (.builtin "object.__class__")) := by
  obtain ⟨cd, hcd, _⟩ := any_some C.hd
  unfold findObj
  rw [hcd]
  rw [Option.bind_some, C.ha]
  rw [Option.bind_some]
  simp [C.hn, C.ht]
theorem class_of {Q : Option Value → Shared → Prop} (C : L2.ExcC K D) (X : K.In s.heap) (I : PySem.W.InstAt s.heap x ox D od) (h : Q (some (.ref D)) { s with toks := s.toks + 1 }) :
    wpAny (model prog w) A (getAttr? (.ref x) "__class__") Q E s := by
  have hf := find_class (od := od) C
  obtain ⟨hp, gn, dn, tk, os⟩ := s
  have ty := I.type (M := model prog w)
  have l1 := looks_findIn (M := model prog w) X C.hg
  have l2 := looks_findIn (M := model prog w) X C.hk
  have l3 := looks_find (M := model prog w) X I hf
  have isE : Looks (model prog w) hp (isInstance (.ref x) (.type "BaseException")) true := by
    exact ty.andThen (looks_subIn X C.hs)
  have n0 : (false && onTheHeap (.builtin "BaseException.__getattribute__" : Value)) = false := rfl
  have n2 : ((.builtin "BaseException.__getattribute__" : Value) == .builtin "object.__getattribute__") = false := by
    decide +kernel
  have n1 : (onTheHeap (.ref D : Value) && (.builtin "BaseException.__getattribute__" : Value) == .builtin "object.__getattribute__") = false := by
    rw [n2]
    rfl
  unfold getAttr? getAttrBy? getAttrBy
  refine wpAny_bind (wpAny_mkText ?_)
  refine wpAny_bind (wpAny_attempt ?_)
  refine wpAny_holding (wpAny_bind ?_)
  refine ty.at (wpAny_bind (l1.at ?_))
  show wpAny _ _ (if (onTheHeap (.ref D : Value) && (.builtin "BaseException.__getattribute__" : Value) == .builtin "object.__getattribute__") = true
    then _ else _) _ _ _
  rw [n1]
  rw [if_neg Bool.false_ne_true]
  unfold getAttrByItsOwn hookBefore
  refine wpAny_bind ?_
  have on : onTheHeap (.ref D : Value) = true := rfl
  rw [if_pos on]
  refine l2.at ?_
  refine wpAny_bind (wpAny_attempt ?_)
  refine wpAny_holding ?_
  unfold callGetattribute
  rw [n0]
  rw [if_neg Bool.false_ne_true]
  unfold boundAndCalled
  rw [PySem.F.excAttr_ValueError.ga.bind (.ref x)]
  refine wpAny_bind (wpAny_pure ?_)
  show wpAny _ _ (call (.builtin "BaseException.__getattribute__")
    [.ref x, .str "__class__" tk]) _ _ _
  refine wpAny_call ?_
  refine codeAny_call_builtin PySem.F.excAttr_ValueError.ga.plain
    PySem.F.entry_bexc_ga ?_
  refine @check_slot (model prog w) _ _ ⟨hp, gn, dn, tk + 1, os⟩
    "BaseException.__getattribute__" "BaseException"
    "__getattribute__" (.ref x) [.str "__class__" tk] [] _
    (by decide +kernel) (by decide +kernel) isE
    (PySem.F.args_bexc_ga (.ref x) (.str "__class__" tk)) ?_
  unfold Builtin.«object.__getattribute__»
  refine wpAny_bind ?_
  refine wpAny_of_eq (a := ((Value.ref x : Value), [Value.str "__class__" tk])) ?e1 ?_
  case e1 =>
    first
      | rfl
      | (simp only [slotArgs]; rfl)
  refine wpAny_bind (wpAny_pure ?_)
  refine wpAny_bind (ty.at ?_)
  refine wpAny_bind (l3.at ?_)
  show wpAny _ _ (holding [Value.builtin "object.__class__"]
    (call (.builtin "getset_descriptor.__get__") [.builtin "object.__class__", .ref x, .ref D]) >>= ret) _ _ _
  refine wpAny_bind (wpAny_holding ?_)
  refine wpAny_call (class_get (s := ⟨hp, gn, dn, tk + 1, os⟩) (ox := ox) (od := od) X I C.hm ?_)
  refine wpAny_pure ?_
  show wpAny _ _ (handedOut (.ref D)) _ _ _
  rw [handedOut_of (v := .ref D) rfl]
  first
    | exact wpAny_pure (wpAny_pure h)
    | exact wpAny_pure h
    | exact wpAny_pure (wpAny_bind (wpAny_pure (wpAny_pure h)))
theorem kit_pinned (C : L2.ExcC K D) : KitX K (.ref x) (.ref D) (fun h => PySem.W.InstAt h x ox D od) where
  ty := fun _ _ _ I => I.type
  it := by
    intro M h X _
    obtain ⟨cd, hcd, _⟩ := any_some C.hd
    unfold clsIn at hcd
    split at hcd
    case h_2 => cases hcd
    rename_i ho
    intro A1 Q1 E1 s1 k1 q1
    unfold isType loadHead
    have there := k1 _ _ (X _ _ ho)
    exact wpAny_bind (wpAny_loadPart there (wpAny_pure q1))
  ne := fun h tp dd its n sl X htp => (handS_kitx_exc (x := x) (ox := ox) C.hg C.hk C.hs C.hd C.ha C.hn C.ht C.hm).ne h tp dd its n sl X htp
  ca := fun X I k => class_of C X I k
end
section
open L2
/-- isinstance(e, c), e pinned -/
def rIsP (K : PySem.W.Frag) (a : Addr) (cls : Value) (d : Option Addr) : List V → Hp → VK → Prop := fun xs H Q => ∃ (c : V) (cv : Value) (D : Addr) (b : Bool), xs = [.ref a, c] ∧ cls = .ref D ∧ (∀ u, RelV c u → u = cv) ∧ L2.ExcC K D ∧ (∀ dd, d = some dd → ∃ fs, H dd = some (.xd fs)) ∧
  PySem.W.kitOne K (.ref D) cv = some b ∧ Q (.bl b) H
theorem call_isP {X : Cx} {a : Addr} {oe : Obj} {cls : Value} {d : Option Addr} {pn : List (Addr × Obj)} {xe : Value → Shared → Prop} (hz : Zc cls d oe) (hf : ∃ vs, oe.data = .fields vs) : CallR (X.tr ((a, oe) :: pn) xe) (.builtin "isinstance") (rIsP X.K a cls d) := by
  intro pins s σ H xs us Q I r h
  obtain ⟨c, cv, D, b, rfl, rfl, hcv, C, hd, e, q⟩ := h
  obtain ⟨u1, u2, rfl, r1, r2⟩ := vals2 r
  obtain rfl : u1 = Value.ref a := r1
  obtain rfl := hcv _ r2
  have pin := I.pin (a, oe) (List.mem_append_left _ List.mem_cons_self)
  obtain ⟨vs, hv⟩ := hf
  have J : ∃ od, PySem.W.InstAt s.heap a oe D od := by
    cases d with
    | none =>
      refine ⟨none, pin.1, hz.1, ?_, ?_⟩
      · unfold PySem.W.notCls
        rw [hv]
      · rw [hz.2]
        trivial
    | some dd =>
      obtain ⟨fs, hx⟩ := hd dd rfl
      have ox : ObjOk X.prog X.w H s.heap dd (.xd fs) := I.hok dd _ hx
      obtain ⟨mA, hns, _⟩ := ox
      obtain ⟨od, ho, _⟩ := lookIn_ns hns
      refine ⟨some od, pin.1, hz.1, ?_, ?_⟩
      · unfold PySem.W.notCls
        rw [hv]
      · rw [hz.2]
        exact ho
  obtain ⟨od, J⟩ := J
  exact PySem.W.kia_one (kit_pinned C) I.kIn J e (fun z => nomatch z) fun tk => ⟨.bl b, H, I.kept (t' := tk) fun _ _ z => z, rfl, q⟩
/-- e.n, e pinned -/
theorem pe_xp {X : Cx} {a C : Addr} {oe : Obj} {cls : Value} {d : Option Addr} {pn : List (Addr × Obj)} {xe : Value → Shared → Prop} {e : Expr} {te : TE} {pos : Pos} {n : Str} (T : XfC X.K C) (hno : PySem.W.findIn X.K (.ref C) n = some none)
    (hz : Zc cls d oe) (hf : ∃ vs, oe.data = .fields vs) (he : PE (X.tr ((a, oe) :: pn) xe) e te) (hb : attributeBase e n X.env (eval e X.env) = eval e X.env := by rfl) :
    PE (X.tr ((a, oe) :: pn) xe) (.Attribute e n pos) (tXf a cls d C n te) := by
  constructor
  intro pins s σ H Q I h
  refine attr_of hb (thn (he.run pins s σ H _ I h) ?_)
  rintro u s1 ⟨x, H1, I1, rx, rfl, rfl, dd, fs, v, rfl, ea, l, q⟩
  obtain rfl : u = Value.ref a := rx
  have pin := I1.pin (a, oe) (List.mem_append_left _ List.mem_cons_self)
  obtain ⟨vs, hv⟩ := hf
  have ox : ObjOk X.prog X.w H1 s1.heap dd (.xd fs) := I1.hok dd _ ea
  obtain ⟨mA, hns, hr⟩ := ox
  obtain ⟨od, ho, hl⟩ := lookIn_ns hns
  obtain ⟨u, hu, ru⟩ := RelO.some_of (v := v) (o := mA n) (by rw [← l]; exact hr n)
  have J : PySem.W.InstAt s1.heap a oe C (some od) := by
    refine ⟨pin.1, hz.1, ?_, ?_⟩
    · unfold PySem.W.notCls
      rw [hv]
    · rw [hz.2]
      exact ho
  have own := PySem.W.findObj_own T.hdC hno rfl (show PySem.W.lookIn n od = some (some u) by rw [hl, hu])
  exact HandSPX.exc_get I1.kIn J T.ga T.gg T.exC own (handed_of ru) ⟨v, H1, I1.tok _, ru, q⟩
end
end NV
/-! Res -/
set_option Elab.async false
set_option linter.all false
set_option maxRecDepth 100000
set_option maxHeartbeats 1000000
/-! the law's _law_result: what it makes of a lambda's value, of its error -/
namespace NV
open PySem PySem.Spec PyProof.Rows L2
open C8 (pss_cut pe_gc)
abbrev sLawResult : Stmt := topS 56
theorem scLawResult : FnScope ["work", "e", "marks", "error", "result"] ["work"] (defScope sLawResult) := ⟨rfl, rfl, rfl, by decide +kernel, rfl, by decide +kernel, by decide +kernel⟩
/-- where the classes of errors stand -/
structure ErrAt where
  top : Addr
  id : Addr
  cell : Addr
  sld : Addr
  dup : Addr
  log : Addr
  bud : Addr
  cmp : Addr
def ErrAt.no (A : ErrAt) : Nat → Addr
  | 0 => A.id
  | 1 => A.cell
  | 2 => A.sld
  | 3 => A.dup
  | 4 => A.log
  | 5 => A.bud
  | _ => A.cmp
structure ErrTop (mg : Str → Option Value) (A : ErrAt) : Prop where
  top : mg "LogError" = some (.ref A.top)
  id : mg "UnknownId" = some (.ref A.id)
  cell : mg "UnknownCell" = some (.ref A.cell)
  sld : mg "SealedWrite" = some (.ref A.sld)
  dup : mg "DuplicateId" = some (.ref A.dup)
  log : mg "InvalidLog" = some (.ref A.log)
  bud : mg "InvalidBudget" = some (.ref A.bud)
  cmp : mg "NotCompact" = some (.ref A.cmp)
/-- what is known of the class number i -/
structure ErrCls (K : PySem.W.Frag) (A : ErrAt) (i : Nat) : Prop where
  x : L2.ExcC K (A.no i)
  c : PySem.W.exmOne K (.ref (A.no i)) (.ref A.top) = some true
  is : ∀ j, j < 7 → PySem.W.kitOne K (.ref (A.no i)) (.ref (A.no j)) = some (decide (i = j))
  v : PySem.W.kitOne K (.ref (A.no i)) (.type "ValueError") = some true
/-- the attribute f of the class number i -/
structure ErrFld (K : PySem.W.Frag) (A : ErrAt) (i : Nat) (f : Str) : Prop where
  x : L2.XfC K (A.no i)
  no : PySem.W.findIn K (.ref (A.no i)) f = some none
def resW : Nat → Str
  | 0 => "id"
  | 1 => "cell"
  | 2 => "sealed"
  | 3 => "duplicate"
  | 4 => "log"
  | 5 => "budget"
  | _ => "compact"
def resF : Nat → Str
  | 1 => "cell"
  | _ => "entry_id"
/-- what is made of an error -/
def resE (K : PySem.W.Frag) (A : ErrAt) (Q : VK) : XK := fun cls d H => ∃ (i : Nat) (v : V), i < 7 ∧ cls = .ref (A.no i) ∧ ErrCls K A i ∧ (∀ dd, d = some dd → ∃ fs, H dd = some (.xd fs)) ∧
  (i < 4 → ∃ dd fs, d = some dd ∧ H dd = some (.xd fs) ∧ fs.lookup (resF i) = some v) ∧ (4 ≤ i → v = .bl true) ∧ ∀ p H', Kp [] H H' → H' p = some (.tup [.str (resW i), v]) → Q (.ref p) H'
def TRes (K : PySem.W.Frag) (A : ErrAt) : (XK → Hp → VK → Prop) → Hp → VK → Prop := fun tl H Q => ∀ H0, Kp [] H H0 → tl (resE K A Q) H0 fun v H' => ∀ p H2, Kp [] H' H2 → H2 p = some (.tup [.str "value", v]) → Q (.ref p) H2
theorem mtIndexE {X : Cx} (K : PySem.W.Frag) (h : X.K = K := by rfl) : MtR X "list.index" (rIndex K) := by
  rw [← h]; exact mt_index
theorem takes_len {X : Cx} {W : WX} {n : Nat} (tk : Takes X W) (hn : X.N.length = n) : Takes X (fun cls d σ H => σ.length = n → W cls d σ H) := fun u s' ⟨a, B, sI, pins, σ, H, cls, d, e, I, nb, up, sky, na, os, ag, w⟩ =>
  tk u s' ⟨a, B, sI, pins, σ, H, cls, d, e, I, nb, up, sky, na, os, ag, w (by rw [I.len]; exact hn)⟩
theorem pe_mono {X : Cx} {e : Expr} {te : TE} (h : PE X e te) : PE X e (fun σ H Q => ∃ Q0 : VK, (∀ v H', Q0 v H' → Q v H') ∧ te σ H Q0) :=
  ⟨fun pins s σ H Q I ⟨Q0, m, h0⟩ => thn (h.run pins s σ H Q0 I h0) fun u s' ⟨v, H', I', r, q⟩ => ⟨v, H', I', r, m v H' q⟩⟩
section
variable {X : Cx}
theorem result_gives {g : Addr} {cdg : Value} {q : Str} {A : ErrAt} (T : ErrTop X.mg A) (b_isinstance : X.mg "isinstance" = none) (b_ValueError : X.mg "ValueError" = none)
    (f0 : ErrFld X.K A 0 "entry_id") (f1 : ErrFld X.K A 1 "cell") (f2 : ErrFld X.K A 2 "entry_id") (f3 : ErrFld X.K A 3 "entry_id") :
    LamX.GivesTo X ["work", "e", "marks", "error", "result"] "_law_result" (defScope sLawResult) g cdg (defBody sLawResult) "work" q (TRes X.K A) := by
  intro f c' s H Q tl act hc h
  refine ⟨_, pss_cons (ps_asg (pe_tup (pa_cons pe_non (pa_cons pe_non pa_nil))) (pg_tupE X.K (by rfl) (pgs_cons (pg_name (i := 3) scLawResult.nd rfl (.inl rfl)) (pgs_cons (pg_name (i := 4) scLawResult.nd rfl (.inl rfl)) pgs_nil))))
    (pss_keep (i := 1) (n := "e") (c := .ref A.top) (tb := fun W D σ H => ∃ (Ech : XK) (Q0 : VK), (∀ cls d σ' H', Ech cls d H' → σ'.length = 5 → W cls d σ' H') ∧ (∀ v H1, Q0 v H1 → D.nx (σ.set 4 (some v)) H1) ∧ σ[0]? = some (some (.ref f)) ∧ H c' = some (LamX.CodeO c' q) ∧ tl Ech H Q0)
      rfl rfl scLawResult.nd rfl rfl ⟨rfl, rfl, .inl T.top⟩ LamX.takes0 (fun W pn xe tk _ => ?body)
      (fun a oe cls d pn _ _ => pss_one (ps_set (i := 3) scLawResult.nd rfl (.inl rfl) (pv 1)))
      (pss_cons (ps_if (pt_cmpR op_isN (pv 3) pe_non (nomark _)) (pss_one (ps_ret (pe_tup (pa_cons pe_str (pa_cons (pv 4) pa_nil))))) pss_nil) (pss_dead _))
      (fun a oe cls d pn hz hf =>
        (pss_cons (ps_if (pt_cmpR op_isN (pv 3) pe_non (nomark _)) (pss_dead _) pss_nil)
        (pss_cons (ps_if (pt_val (pe_callB (call_isP hz hf) (by rfl) b_isinstance (by decide +kernel) (pa_cons (pv 3) (pa_cons (pe_glob (v := .ref A.id) rfl T.id rfl) pa_nil)))) (pss_one (ps_ret (pe_tup (pa_cons pe_str (pa_cons (pe_xp f0.x f0.no hz hf (pv 3)) pa_nil))))) pss_nil)
        (pss_cons (ps_if (pt_val (pe_callB (call_isP hz hf) (by rfl) b_isinstance (by decide +kernel) (pa_cons (pv 3) (pa_cons (pe_glob (v := .ref A.cell) rfl T.cell rfl) pa_nil)))) (pss_one (ps_ret (pe_tup (pa_cons pe_str (pa_cons (pe_xp f1.x f1.no hz hf (pv 3)) pa_nil))))) pss_nil)
        (pss_cons (ps_if (pt_val (pe_callB (call_isP hz hf) (by rfl) b_isinstance (by decide +kernel) (pa_cons (pv 3) (pa_cons (pe_glob (v := .ref A.sld) rfl T.sld rfl) pa_nil)))) (pss_one (ps_ret (pe_tup (pa_cons pe_str (pa_cons (pe_xp f2.x f2.no hz hf (pv 3)) pa_nil))))) pss_nil)
        (pss_cons (ps_if (pt_val (pe_callB (call_isP hz hf) (by rfl) b_isinstance (by decide +kernel) (pa_cons (pv 3) (pa_cons (pe_glob (v := .ref A.dup) rfl T.dup rfl) pa_nil)))) (pss_one (ps_ret (pe_tup (pa_cons pe_str (pa_cons (pe_xp f3.x f3.no hz hf (pv 3)) pa_nil))))) pss_nil)
        (pss_cons (ps_set (i := 2) scLawResult.nd rfl (.inl rfl) (pe_lst (pa_cons (pe_callB (call_isP hz hf) (by rfl) b_isinstance (by decide +kernel) (pa_cons (pv 3) (pa_cons (pe_glob (v := .ref A.log) rfl T.log rfl) pa_nil)))
            (pa_cons (pe_callB (call_isP hz hf) (by rfl) b_isinstance (by decide +kernel) (pa_cons (pv 3) (pa_cons (pe_glob (v := .ref A.bud) rfl T.bud rfl) pa_nil)))
            (pa_cons (pe_callB (call_isP hz hf) (by rfl) b_isinstance (by decide +kernel) (pa_cons (pv 3) (pa_cons (pe_glob (v := .ref A.cmp) rfl T.cmp rfl) pa_nil))) pa_nil)))))
        (pss_one (ps_ret (pe_tup (pa_cons (pe_ix (ixlE X.K) (pe_lst (pa_cons pe_str (pa_cons pe_str (pa_cons pe_str (pa_cons pe_str pa_nil)))))
            (bmE X.K PySem.F.plainAttrs_list PySem.F.slot_list_index PySem.F.type_list_index (mtIndexE X.K) (pe_op op_cat (pv 2) (pe_lst (pa_cons pe_bl pa_nil))) (pa_cons pe_bl pa_nil)) (fun _ _ => rfl))
          (pa_cons (pe_callB (call_isP hz hf) (by rfl) b_isinstance (by decide +kernel) (pa_cons (pv 3) (pa_cons (pe_bltn (v := .ty "ValueError") rfl b_ValueError (by rfl) rfl) pa_nil))) pa_nil))))))))))))), ?_⟩
  case body =>
    refine ⟨fun pins s' σ H' D I h' => ?_⟩
    obtain ⟨Ech, Q0, hW, hm, h1, h2, h3⟩ := h'
    refine PSs.run (pss_one (ps_set (i := 4) scLawResult.nd rfl (.inl rfl) (pe_mono (act _ pn xe Ech _ _ (takes_len tk rfl) hW)))) pins s' σ H' D I ?_
    exact ⟨Q0, hm, h1, h2, h3⟩
  refine ⟨?one, fun T0 nT0 => ?_⟩
  case one => exact (by decide : 2 ≤ sizeLine)
  refine ⟨T0, _, rfl, .inl (.inl upd_same), rfl, _, _, rfl, _, _, rfl, rfl, ?_⟩
  have k0 : Kp [] H (upd H T0 (.tup [V.non, V.non])) := Kp.laid nT0
  refine ⟨_, _, ?err, ?val, rfl, k0 _ _ (by simp) hc, h _ k0⟩
  case val =>
    intro v H1 hv
    refine ⟨_, rfl, rfl, true, by rw [decide_eq_true rfl], iteT ?_⟩
    exact ⟨_, rfl, (by decide : 2 ≤ sizeLine), fun p np => hv p _ (Kp.laid np) upd_same⟩
  case err =>
    intro cls d σ' H' hE h5
    obtain ⟨i, v, hi, rfl, C, hd, hat, hb, hq⟩ := hE
    refine ⟨true, C.c, (fun z => by cases z), fun _ a na => ?_⟩
    match σ', h5 with
    | [x0, x1, x2, x3, x4], _ =>
      refine ⟨_, rfl, _, rfl, rfl, false, by rw [decide_eq_false (fun z => nomatch z)], iteF ?_⟩
      match i, hi with
      | 0, _ =>
        refine ⟨_, rfl, .ref (A.no 0), .ref (A.no 0), A.no 0, _, rfl, rfl, (fun u r => r), C.x, hd, C.is 0 (by decide), _, rfl, iteT ?_⟩
        obtain ⟨dd, fs, rfl, hx, hl⟩ := hat (by decide)
        refine ⟨_, rfl, rfl, rfl, dd, fs, v, rfl, hx, hl, (by decide : 2 ≤ sizeLine), fun p np => hq p _ (Kp.laid np) upd_same⟩
      | 1, _ =>
        refine ⟨_, rfl, .ref (A.no 0), .ref (A.no 0), A.no 1, _, rfl, rfl, (fun u r => r), C.x, hd, C.is 0 (by decide), _, rfl, iteF ?_⟩
        refine ⟨_, rfl, .ref (A.no 1), .ref (A.no 1), A.no 1, _, rfl, rfl, (fun u r => r), C.x, hd, C.is 1 (by decide), _, rfl, iteT ?_⟩
        obtain ⟨dd, fs, rfl, hx, hl⟩ := hat (by decide)
        refine ⟨_, rfl, rfl, rfl, dd, fs, v, rfl, hx, hl, (by decide : 2 ≤ sizeLine), fun p np => hq p _ (Kp.laid np) upd_same⟩
      | 2, _ =>
        refine ⟨_, rfl, .ref (A.no 0), .ref (A.no 0), A.no 2, _, rfl, rfl, (fun u r => r), C.x, hd, C.is 0 (by decide), _, rfl, iteF ?_⟩
        refine ⟨_, rfl, .ref (A.no 1), .ref (A.no 1), A.no 2, _, rfl, rfl, (fun u r => r), C.x, hd, C.is 1 (by decide), _, rfl, iteF ?_⟩
        refine ⟨_, rfl, .ref (A.no 2), .ref (A.no 2), A.no 2, _, rfl, rfl, (fun u r => r), C.x, hd, C.is 2 (by decide), _, rfl, iteT ?_⟩
        obtain ⟨dd, fs, rfl, hx, hl⟩ := hat (by decide)
        refine ⟨_, rfl, rfl, rfl, dd, fs, v, rfl, hx, hl, (by decide : 2 ≤ sizeLine), fun p np => hq p _ (Kp.laid np) upd_same⟩
      | 3, _ =>
        refine ⟨_, rfl, .ref (A.no 0), .ref (A.no 0), A.no 3, _, rfl, rfl, (fun u r => r), C.x, hd, C.is 0 (by decide), _, rfl, iteF ?_⟩
        refine ⟨_, rfl, .ref (A.no 1), .ref (A.no 1), A.no 3, _, rfl, rfl, (fun u r => r), C.x, hd, C.is 1 (by decide), _, rfl, iteF ?_⟩
        refine ⟨_, rfl, .ref (A.no 2), .ref (A.no 2), A.no 3, _, rfl, rfl, (fun u r => r), C.x, hd, C.is 2 (by decide), _, rfl, iteF ?_⟩
        refine ⟨_, rfl, .ref (A.no 3), .ref (A.no 3), A.no 3, _, rfl, rfl, (fun u r => r), C.x, hd, C.is 3 (by decide), _, rfl, iteT ?_⟩
        obtain ⟨dd, fs, rfl, hx, hl⟩ := hat (by decide)
        refine ⟨_, rfl, rfl, rfl, dd, fs, v, rfl, hx, hl, (by decide : 2 ≤ sizeLine), fun p np => hq p _ (Kp.laid np) upd_same⟩
      | 4, _ =>
        refine ⟨_, rfl, .ref (A.no 0), .ref (A.no 0), A.no 4, _, rfl, rfl, (fun u r => r), C.x, hd, C.is 0 (by decide), _, rfl, iteF ?_⟩
        refine ⟨_, rfl, .ref (A.no 1), .ref (A.no 1), A.no 4, _, rfl, rfl, (fun u r => r), C.x, hd, C.is 1 (by decide), _, rfl, iteF ?_⟩
        refine ⟨_, rfl, .ref (A.no 2), .ref (A.no 2), A.no 4, _, rfl, rfl, (fun u r => r), C.x, hd, C.is 2 (by decide), _, rfl, iteF ?_⟩
        refine ⟨_, rfl, .ref (A.no 3), .ref (A.no 3), A.no 4, _, rfl, rfl, (fun u r => r), C.x, hd, C.is 3 (by decide), _, rfl, iteF ?_⟩
        refine ⟨_, rfl, .ref (A.no 4), .ref (A.no 4), A.no 4, _, rfl, rfl, (fun u r => r), C.x, hd, C.is 4 (by decide), ?_⟩
        refine ⟨_, rfl, .ref (A.no 5), .ref (A.no 5), A.no 4, _, rfl, rfl, (fun u r => r), C.x, hd, C.is 5 (by decide), ?_⟩
        refine ⟨_, rfl, .ref (A.no 6), .ref (A.no 6), A.no 4, _, rfl, rfl, (fun u r => r), C.x, hd, C.is 6 (by decide), ?_⟩
        obtain rfl := hb (by decide)
        refine ⟨(by decide : 3 ≤ sizeLine), fun l nl => ?_⟩
        refine ⟨(by decide : 4 ≤ sizeLine), fun l2 nl2 => ?_⟩
        refine ⟨_, rfl, (by decide : 1 ≤ sizeLine), fun l3 nl3 => ?_⟩
        have k1 : Kp [] H' (upd H' l (.lst [V.bl (decide (4 = 4)), V.bl (decide (4 = 5)), V.bl (decide (4 = 6))])) := Kp.laid nl
        have k2 : Kp [] (upd H' l (.lst [V.bl (decide (4 = 4)), V.bl (decide (4 = 5)), V.bl (decide (4 = 6))])) (upd (upd H' l (.lst [V.bl (decide (4 = 4)), V.bl (decide (4 = 5)), V.bl (decide (4 = 6))])) l2 (.lst [V.str "log", V.str "budget", V.str "compact", V.str "other"])) := Kp.laid nl2
        have k3 : Kp [] (upd (upd H' l (.lst [V.bl (decide (4 = 4)), V.bl (decide (4 = 5)), V.bl (decide (4 = 6))])) l2 (.lst [V.str "log", V.str "budget", V.str "compact", V.str "other"])) (upd (upd (upd H' l (.lst [V.bl (decide (4 = 4)), V.bl (decide (4 = 5)), V.bl (decide (4 = 6))])) l2 (.lst [V.str "log", V.str "budget", V.str "compact", V.str "other"])) l3 (.lst [V.bl true])) := Kp.laid nl3
        have e1 := k3 _ _ (by simp) (k2 _ _ (by simp) (upd_same (H := H') (a := l) (o := .lst [V.bl (decide (4 = 4)), V.bl (decide (4 = 5)), V.bl (decide (4 = 6))])))
        refine ⟨l, l3, _, _, rfl, rfl, e1, upd_same, (by decide : 4 ≤ sizeLine), fun p4 n4 => ?_⟩
        have k4 := (k1.trans (k2.trans k3)).trans (Kp.laid (ex := []) (o := .lst ([V.bl (decide (4 = 4)), V.bl (decide (4 = 5)), V.bl (decide (4 = 6))] ++ [V.bl true])) n4)
        have e2 := (Kp.laid (ex := []) (o := .lst ([V.bl (decide (4 = 4)), V.bl (decide (4 = 5)), V.bl (decide (4 = 6))] ++ [V.bl true])) n4) _ _ (by simp) (k3 _ _ (by simp) (upd_same (H := upd H' l (.lst [V.bl (decide (4 = 4)), V.bl (decide (4 = 5)), V.bl (decide (4 = 6))])) (a := l2) (o := .lst [V.str "log", V.str "budget", V.str "compact", V.str "other"])))
        refine ⟨.inl ⟨rfl, _, SqL.of upd_same⟩, p4, _, .bl true, 0, .bl true, rfl, rfl, SqL.of upd_same, rfl, rfl, rfl, rfl, ?_, l2, _, 0, .str "log", rfl, rfl, SqL.of e2, rfl, ?_⟩
        · exact fun m z hm hz => absurd hm (by omega)
        refine ⟨_, rfl, .ty "ValueError", .type "ValueError", A.no 4, true, rfl, rfl, (fun u r => r), C.x, (fun dd e => ?_), C.v, (by decide : 2 ≤ sizeLine), fun p np => hq p _ (k4.trans (Kp.laid np)) upd_same⟩
        obtain ⟨fs, hx⟩ := hd dd e
        exact ⟨fs, k4 _ _ (by simp) hx⟩
      | 5, _ =>
        refine ⟨_, rfl, .ref (A.no 0), .ref (A.no 0), A.no 5, _, rfl, rfl, (fun u r => r), C.x, hd, C.is 0 (by decide), _, rfl, iteF ?_⟩
        refine ⟨_, rfl, .ref (A.no 1), .ref (A.no 1), A.no 5, _, rfl, rfl, (fun u r => r), C.x, hd, C.is 1 (by decide), _, rfl, iteF ?_⟩
        refine ⟨_, rfl, .ref (A.no 2), .ref (A.no 2), A.no 5, _, rfl, rfl, (fun u r => r), C.x, hd, C.is 2 (by decide), _, rfl, iteF ?_⟩
        refine ⟨_, rfl, .ref (A.no 3), .ref (A.no 3), A.no 5, _, rfl, rfl, (fun u r => r), C.x, hd, C.is 3 (by decide), _, rfl, iteF ?_⟩
        refine ⟨_, rfl, .ref (A.no 4), .ref (A.no 4), A.no 5, _, rfl, rfl, (fun u r => r), C.x, hd, C.is 4 (by decide), ?_⟩
        refine ⟨_, rfl, .ref (A.no 5), .ref (A.no 5), A.no 5, _, rfl, rfl, (fun u r => r), C.x, hd, C.is 5 (by decide), ?_⟩
        refine ⟨_, rfl, .ref (A.no 6), .ref (A.no 6), A.no 5, _, rfl, rfl, (fun u r => r), C.x, hd, C.is 6 (by decide), ?_⟩
        obtain rfl := hb (by decide)
        refine ⟨(by decide : 3 ≤ sizeLine), fun l nl => ?_⟩
        refine ⟨(by decide : 4 ≤ sizeLine), fun l2 nl2 => ?_⟩
        refine ⟨_, rfl, (by decide : 1 ≤ sizeLine), fun l3 nl3 => ?_⟩
        have k1 : Kp [] H' (upd H' l (.lst [V.bl (decide (5 = 4)), V.bl (decide (5 = 5)), V.bl (decide (5 = 6))])) := Kp.laid nl
        have k2 : Kp [] (upd H' l (.lst [V.bl (decide (5 = 4)), V.bl (decide (5 = 5)), V.bl (decide (5 = 6))])) (upd (upd H' l (.lst [V.bl (decide (5 = 4)), V.bl (decide (5 = 5)), V.bl (decide (5 = 6))])) l2 (.lst [V.str "log", V.str "budget", V.str "compact", V.str "other"])) := Kp.laid nl2
        have k3 : Kp [] (upd (upd H' l (.lst [V.bl (decide (5 = 4)), V.bl (decide (5 = 5)), V.bl (decide (5 = 6))])) l2 (.lst [V.str "log", V.str "budget", V.str "compact", V.str "other"])) (upd (upd (upd H' l (.lst [V.bl (decide (5 = 4)), V.bl (decide (5 = 5)), V.bl (decide (5 = 6))])) l2 (.lst [V.str "log", V.str "budget", V.str "compact", V.str "other"])) l3 (.lst [V.bl true])) := Kp.laid nl3
        have e1 := k3 _ _ (by simp) (k2 _ _ (by simp) (upd_same (H := H') (a := l) (o := .lst [V.bl (decide (5 = 4)), V.bl (decide (5 = 5)), V.bl (decide (5 = 6))])))
        refine ⟨l, l3, _, _, rfl, rfl, e1, upd_same, (by decide : 4 ≤ sizeLine), fun p4 n4 => ?_⟩
        have k4 := (k1.trans (k2.trans k3)).trans (Kp.laid (ex := []) (o := .lst ([V.bl (decide (5 = 4)), V.bl (decide (5 = 5)), V.bl (decide (5 = 6))] ++ [V.bl true])) n4)
        have e2 := (Kp.laid (ex := []) (o := .lst ([V.bl (decide (5 = 4)), V.bl (decide (5 = 5)), V.bl (decide (5 = 6))] ++ [V.bl true])) n4) _ _ (by simp) (k3 _ _ (by simp) (upd_same (H := upd H' l (.lst [V.bl (decide (5 = 4)), V.bl (decide (5 = 5)), V.bl (decide (5 = 6))])) (a := l2) (o := .lst [V.str "log", V.str "budget", V.str "compact", V.str "other"])))
        refine ⟨.inl ⟨rfl, _, SqL.of upd_same⟩, p4, _, .bl true, 1, .bl true, rfl, rfl, SqL.of upd_same, rfl, rfl, rfl, rfl, ?_, l2, _, 1, .str "budget", rfl, rfl, SqL.of e2, rfl, ?_⟩
        · exact fun m z hm hz => match m, hm, hz with
          | 0, _, hz => by obtain rfl := Option.some.inj hz; rfl
        refine ⟨_, rfl, .ty "ValueError", .type "ValueError", A.no 5, true, rfl, rfl, (fun u r => r), C.x, (fun dd e => ?_), C.v, (by decide : 2 ≤ sizeLine), fun p np => hq p _ (k4.trans (Kp.laid np)) upd_same⟩
        obtain ⟨fs, hx⟩ := hd dd e
        exact ⟨fs, k4 _ _ (by simp) hx⟩
      | 6, _ =>
        refine ⟨_, rfl, .ref (A.no 0), .ref (A.no 0), A.no 6, _, rfl, rfl, (fun u r => r), C.x, hd, C.is 0 (by decide), _, rfl, iteF ?_⟩
        refine ⟨_, rfl, .ref (A.no 1), .ref (A.no 1), A.no 6, _, rfl, rfl, (fun u r => r), C.x, hd, C.is 1 (by decide), _, rfl, iteF ?_⟩
        refine ⟨_, rfl, .ref (A.no 2), .ref (A.no 2), A.no 6, _, rfl, rfl, (fun u r => r), C.x, hd, C.is 2 (by decide), _, rfl, iteF ?_⟩
        refine ⟨_, rfl, .ref (A.no 3), .ref (A.no 3), A.no 6, _, rfl, rfl, (fun u r => r), C.x, hd, C.is 3 (by decide), _, rfl, iteF ?_⟩
        refine ⟨_, rfl, .ref (A.no 4), .ref (A.no 4), A.no 6, _, rfl, rfl, (fun u r => r), C.x, hd, C.is 4 (by decide), ?_⟩
        refine ⟨_, rfl, .ref (A.no 5), .ref (A.no 5), A.no 6, _, rfl, rfl, (fun u r => r), C.x, hd, C.is 5 (by decide), ?_⟩
        refine ⟨_, rfl, .ref (A.no 6), .ref (A.no 6), A.no 6, _, rfl, rfl, (fun u r => r), C.x, hd, C.is 6 (by decide), ?_⟩
        obtain rfl := hb (by decide)
        refine ⟨(by decide : 3 ≤ sizeLine), fun l nl => ?_⟩
        refine ⟨(by decide : 4 ≤ sizeLine), fun l2 nl2 => ?_⟩
        refine ⟨_, rfl, (by decide : 1 ≤ sizeLine), fun l3 nl3 => ?_⟩
        have k1 : Kp [] H' (upd H' l (.lst [V.bl (decide (6 = 4)), V.bl (decide (6 = 5)), V.bl (decide (6 = 6))])) := Kp.laid nl
        have k2 : Kp [] (upd H' l (.lst [V.bl (decide (6 = 4)), V.bl (decide (6 = 5)), V.bl (decide (6 = 6))])) (upd (upd H' l (.lst [V.bl (decide (6 = 4)), V.bl (decide (6 = 5)), V.bl (decide (6 = 6))])) l2 (.lst [V.str "log", V.str "budget", V.str "compact", V.str "other"])) := Kp.laid nl2
        have k3 : Kp [] (upd (upd H' l (.lst [V.bl (decide (6 = 4)), V.bl (decide (6 = 5)), V.bl (decide (6 = 6))])) l2 (.lst [V.str "log", V.str "budget", V.str "compact", V.str "other"])) (upd (upd (upd H' l (.lst [V.bl (decide (6 = 4)), V.bl (decide (6 = 5)), V.bl (decide (6 = 6))])) l2 (.lst [V.str "log", V.str "budget", V.str "compact", V.str "other"])) l3 (.lst [V.bl true])) := Kp.laid nl3
        have e1 := k3 _ _ (by simp) (k2 _ _ (by simp) (upd_same (H := H') (a := l) (o := .lst [V.bl (decide (6 = 4)), V.bl (decide (6 = 5)), V.bl (decide (6 = 6))])))
        refine ⟨l, l3, _, _, rfl, rfl, e1, upd_same, (by decide : 4 ≤ sizeLine), fun p4 n4 => ?_⟩
        have k4 := (k1.trans (k2.trans k3)).trans (Kp.laid (ex := []) (o := .lst ([V.bl (decide (6 = 4)), V.bl (decide (6 = 5)), V.bl (decide (6 = 6))] ++ [V.bl true])) n4)
        have e2 := (Kp.laid (ex := []) (o := .lst ([V.bl (decide (6 = 4)), V.bl (decide (6 = 5)), V.bl (decide (6 = 6))] ++ [V.bl true])) n4) _ _ (by simp) (k3 _ _ (by simp) (upd_same (H := upd H' l (.lst [V.bl (decide (6 = 4)), V.bl (decide (6 = 5)), V.bl (decide (6 = 6))])) (a := l2) (o := .lst [V.str "log", V.str "budget", V.str "compact", V.str "other"])))
        refine ⟨.inl ⟨rfl, _, SqL.of upd_same⟩, p4, _, .bl true, 2, .bl true, rfl, rfl, SqL.of upd_same, rfl, rfl, rfl, rfl, ?_, l2, _, 2, .str "compact", rfl, rfl, SqL.of e2, rfl, ?_⟩
        · exact fun m z hm hz => match m, hm, hz with
          | 0, _, hz => by obtain rfl := Option.some.inj hz; rfl
          | 1, _, hz => by obtain rfl := Option.some.inj hz; rfl
        refine ⟨_, rfl, .ty "ValueError", .type "ValueError", A.no 6, true, rfl, rfl, (fun u r => r), C.x, (fun dd e => ?_), C.v, (by decide : 2 ≤ sizeLine), fun p np => hq p _ (k4.trans (Kp.laid np)) upd_same⟩
        obtain ⟨fs, hx⟩ := hd dd e
        exact ⟨fs, k4 _ _ (by simp) hx⟩
end
end NV
/-! RetrX -/
set_option Elab.async false
set_option linter.all false
set_option maxRecDepth 100000
set_option maxHeartbeats 1000000
/-! the package's check_may_be_retracted, check_retracted, asked of anything -/
namespace NV
open PySem PySem.Spec PyProof.Rows L2
open C8 (pss_cut pe_gc)
/-- an error of the class number i that keeps data d -/
def fldE : Nat → Str
  | 1 => "cell"
  | _ => "entry_id"
def ErrTo (Cs : Nat → Addr) (ex : List Addr) (H : Hp) (E : XK) (r : Nat × PyData) : Prop := ∀ dd x H', Kp [] H H' → H' dd = some (.xd [(fldE r.1, x)]) → Rp ex H' r.2 x → E (.ref (Cs r.1)) (some dd) H'
theorem ErrTo.keep {Cs : Nat → Addr} {ex : List Addr} {H H' : Hp} {E : XK} {r : Nat × PyData} (h : ErrTo Cs ex H E r) (k : Kp [] H H') : ErrTo Cs ex H' E r := fun dd x H2 k2 h2 r2 => h dd x H2 (k.trans k2) h2 r2
/-- why an entry may not be retracted -/
def mayE (e : Ent) : Option Nat := if e.isW = false then some 0 else if e.pr = none then some 2 else none
def goneI (es : List Ent) : PyData → Option (Nat × PyData)
  | .str z => if idB z = true then (match es.find? fun e => decide (e.id = z) with
    | some e => (mayE e).map fun i => (i, .str z)
    | none => none) else some (0, .str z)
  | d => some (0, d)
def goneE (es : List Ent) : PyData → Option (Nat × PyData)
  | .list ds => ds.findSome? (goneI es)
  | .tuple ds => ds.findSome? (goneI es)
  | d => some (0, d)
theorem find_at {α β : Type} {f : α → Option β} : ∀ {l : List α} {i : Nat} {a : α} {r : β}, (∀ j b, j < i → l[j]? = some b → f b = none) → l[i]? = some a → f a = some r → l.findSome? f = some r
  | [], i, a, r, _, h, _ => by simp at h
  | b :: l, 0, a, r, _, h, e => by
    obtain rfl : b = a := Option.some.inj h
    simp [List.findSome?, e]
  | b :: l, i + 1, a, r, before, h, e => by
    have hb := before 0 b (by omega) rfl
    have := find_at (l := l) (i := i) (fun j c hj hc => before (j + 1) c (by omega) hc) h e
    simp [List.findSome?, hb, this]
theorem find_none {α β : Type} {f : α → Option β} {l : List α} (h : ∀ j b, j < l.length → l[j]? = some b → f b = none) : l.findSome? f = none := by
  rw [List.findSome?_eq_none_iff]
  intro b hb
  obtain ⟨j, hj, e⟩ := List.getElem_of_mem hb
  exact h j b hj (by rw [List.getElem?_eq_getElem hj, e])
/-- the entry of a name -/
theorem find_id {es : List Ent} (nd : (es.map Ent.id).Nodup) {e : Ent} (he : e ∈ es) : (es.find? fun u => decide (u.id = e.id)) = some e := by
  cases h : es.find? fun u => decide (u.id = e.id) with
  | none => exact absurd (List.find?_eq_none.mp h e he) (by simp)
  | some u =>
    have h1 := List.find?_some h
    rw [id_inj nd (List.mem_of_find?_eq_some h) he (of_decide_eq_true h1)]
def spMayBeX (Cs : Nat → Addr) : Sp := fun vs H Q E => ∃ (v : V) (e : Ent) (ex : List Addr), vs = [v] ∧ Rp ex H e.data v ∧ (mayE e = none → Q .non H) ∧ ∀ i, mayE e = some i → ErrTo Cs ex H E (i, .str e.id)
def spRetrX (Cs : Nat → Addr) : Sp := fun vs H Q E => ∃ (v u : V) (es : List Ent) (d : PyData) (ex : List Addr), vs = [v, u] ∧ Rp ex H (logD es) v ∧ LogOk es ∧ es.length ≤ 100 ∧ Rp ex H d u ∧ niceD d = true ∧ (goneE es d = none → ∀ H', Kp [] H H' → Q .non H') ∧ ∀ r, goneE es d = some r → ErrTo Cs ex H E r
/-- data one after another -/
structure Seqn (K : PySem.W.Frag) (b : Bool) (H : Hp) (a : Addr) (xs : List V) : Prop where
  at_ : H a = some (if b then .lst xs else .tup xs)
theorem Seqn.keep0 {K : PySem.W.Frag} {b : Bool} {H H' : Hp} {a : Addr} {xs : List V} (h : Seqn K b H a xs) (k : Kp [] H H') : Seqn K b H' a xs := ⟨k _ _ (by simp) h.at_⟩
theorem Seqn.seq {K : PySem.W.Frag} {b : Bool} {H : Hp} {a : Addr} {xs : List V} (h : Seqn K b H a xs) : if b then SqL K H a xs else SqT K H a xs := by
  cases b with
  | true => exact .inl (.inl h.at_)
  | false => exact .inl (.inl h.at_)
theorem for_row {K : PySem.W.Frag} {b : Bool} {a : Addr} {xs : List V} {g : TG} {tb : TS} {D : Ends} {σ : L2.St} {H : Hp} (Pv : Nat → L2.St → Hp → Prop) (h0 : Pv 0 σ H) (hq : ∀ i σ H, Pv i σ H → Seqn K b H a xs)
    (turn : ∀ (i : Nat) (x : V) (σ : L2.St) (H : Hp), xs[i]? = some x → Pv i σ H → g x σ H fun σ2 H2 => tb { D with nx := Pv (i + 1), ct := Pv (i + 1), bk := D.nx } σ2 H2) (last : ∀ σ H, Pv xs.length σ H → D.nx σ H) :
    ∃ W : Nat → Nat → L2.St → Hp → Prop, (∃ m, W 0 m σ H) ∧ ∀ i m σ H, W i m σ H → ((Jn K b a).stop i H ∧ D.nx σ H) ∨
      ((Jn K b a).go i H ∧ ∃ N : L2.St → Hp → Prop, (∀ σ' H', N σ' H' → ∃ m', m' < m ∧ W (i + 1) m' σ' H') ∧ ∀ v H', (Jn K b a).yld i H v H' → g v σ H' fun σ2 H2 => tb { D with nx := N, ct := N, bk := D.nx } σ2 H2) := by
  refine ⟨fun i m σ H => m + i = xs.length ∧ Pv i σ H, ⟨xs.length, rfl, h0⟩, ?_⟩
  rintro i m σ H ⟨hm, hP⟩
  have at_ := (hq i σ H hP).at_
  cases m with
  | zero =>
    obtain rfl : i = xs.length := by omega
    refine .inl ⟨?_, last σ H hP⟩
    cases b with
    | true => exact ⟨_, .inl (.inl at_), Nat.le_refl _⟩
    | false => exact ⟨_, .inl (.inl at_), Nat.le_refl _⟩
  | succ m =>
    have hi : xs[i]? = some xs[i] := List.getElem?_eq_getElem (by omega)
    refine .inr ⟨?_, Pv (i + 1), fun σ' H' hP' => ⟨m, by omega, by omega, hP'⟩, ?_⟩
    · cases b with
      | true => exact ⟨_, _, .inl (.inl at_), hi⟩
      | false => exact ⟨_, _, .inl (.inl at_), hi⟩
    · intro v H' y
      cases b with
      | true =>
        obtain ⟨rfl, g'⟩ := y
        exact turn i v σ _ (g' _ (.inl (.inl at_))) hP
      | false =>
        obtain ⟨rfl, g'⟩ := y
        exact turn i v σ _ (g' _ (.inl (.inl at_))) hP
section
variable {P : Program} {w : World} {K : PySem.W.Frag} {mg : Str → Option Value} {base : Heap} {Cs : Nat → Addr}
theorem ok_maybeX (DCheckMayBeRetracted : Fn K mg "check_may_be_retracted" sCheckMayBeRetracted ["entry"]) (XI : ErrI K mg "UnknownId" "entry_id" sUnknownid) (GI : FnOk P w K mg base CX0 1 XI.fI XI.fd ["self", "entry_id"] (spInit XI.C "entry_id")) (XS : ErrI K mg "SealedWrite" "entry_id" sSealedwrite) (GS : FnOk P w K mg base CX0 1 XS.fI XS.fd ["self", "entry_id"] (spInit XS.C "entry_id"))
    (c0 : XI.C = Cs 0) (c2 : XS.C = Cs 2) (g0 : ∃ u, mg "KIND" = some u ∧ L2.RelV (.int 0) u) (g1 : ∃ u, mg "ID" = some u ∧ L2.RelV (.int 1) u) (g4 : ∃ u, mg "PRICE" = some u ∧ L2.RelV (.int 4) u) :
    FnOk P w K mg base (L2.CX P w) 3 DCheckMayBeRetracted.f DCheckMayBeRetracted.fd ["entry"] (spMayBeX Cs) := by
  refine DCheckMayBeRetracted.F.okX scCheckMayBeRetracted (fun vs H Q E h => ?_) (fun cdv A outer s H vs Q E hr h => ?_)
  · obtain ⟨v, e, ex, rfl, _⟩ := h
    rfl
  obtain ⟨v, e, ex, rfl, rv, yes, no⟩ := h
  refine ⟨_, pss_cons (ps_if (pt_cmpR op_eq (pe_ix (ixtE K) (pv 0) (pe_gc (v := .int 0) rfl g0) (fun _ _ => rfl)) pe_str (nomark _))
      (pss_one (ps_raise rfl (takes_of rfl rfl rfl rfl) (pmk_erri GI XI.b XI.g XI.T XI.iC XI.tI hr (pe_ix (ixtE K) (pv 0) (pe_gc (v := .int 1) rfl g1) (fun _ _ => rfl)))))
      pss_nil)
      (pss_one (ps_if (pt_cmpR op_isN (pe_ix (ixtE K) (pv 0) (pe_gc (v := .int 4) rfl g4) (fun _ _ => rfl)) pe_non (nomark _))
      (pss_one (ps_raise rfl (takes_of rfl rfl rfl rfl) (pmk_erri GS XS.b XS.g XS.T XS.iC XS.tI hr (pe_ix (ixtE K) (pv 0) (pe_gc (v := .int 1) rfl g1) (fun _ _ => rfl)))))
      pss_nil)), ?_⟩
  obtain ⟨d0, ed0, hd0⟩ := ent_kind e
  obtain ⟨d1, ed1, hd1, _⟩ := ent_reads e
  refine ⟨_, rfl, c_of (ent_ix rv ed0 hd0 rfl fun vk rk => ?_)⟩
  obtain rfl : vk = .str (if e.isW then "write" else "query") := rk
  refine ⟨rfl, _, rfl, ?_⟩
  cases hw : e.isW with
  | false =>
    rw [show decide (V.str (if false = true then ("write" : Str) else "query") = V.str "query") = true from by simp]
    refine iteT ⟨_, rfl, c_of (ent_ix rv ed1 hd1 rfl fun vi ri dd H' k h' => ?_)⟩
    have := no 0 (by unfold mayE; rw [if_pos hw]) dd vi H' k h' (Rp.keep (k.mono (by simp)) _ _ ri)
    rw [c0]
    exact this
  | true =>
    rw [show decide (V.str (if true = true then ("write" : Str) else "query") = V.str "query") = false from decide_eq_false (by intro h; exact absurd (V.str.inj h) (by decide))]
    obtain ⟨d4, ed4, _, hd4⟩ := ent_writes hw
    refine iteF ⟨_, rfl, c_of (ent_ix rv ed4 hd4 rfl fun u ru => ?_)⟩
    cases hpr : e.pr with
    | some i =>
      rw [hpr] at ru
      obtain rfl : u = .int i := ru
      exact ⟨rfl, _, rfl, iteF (yes (by unfold mayE; rw [hw, hpr]; rfl))⟩
    | none =>
      rw [hpr] at ru
      obtain rfl : u = .non := ru
      refine ⟨rfl, _, rfl, iteT ⟨_, rfl, c_of (ent_ix rv ed1 hd1 rfl fun vi ri dd H' k h' => ?_)⟩⟩
      have := no 2 (by unfold mayE; rw [hw, hpr]; rfl) dd vi H' k h' (Rp.keep (k.mono (by simp)) _ _ ri)
      rw [c2]
      exact this
end
theorem goneI_bad {es : List Ent} {y : PyData} (h : wordD 6 true y = false) : goneI es y = some (0, y) := by
  cases y with
  | str z =>
    have hz : idB z = false := h
    show (if idB z = true then _ else _) = _
    rw [hz]
    rfl
  | _ => rfl
theorem goneI_str {es : List Ent} {z : Str} (h : idB z = true) : goneI es (.str z) = (match es.find? fun e => decide (e.id = z) with
    | some e => (mayE e).map fun i => (i, PyData.str z)
    | none => none) := by
  show (if idB z = true then _ else _) = _
  rw [if_pos h]
theorem nice_at {ds : List PyData} {i : Nat} {y : PyData} (h : niceAll ds = true) (e : ds[i]? = some y) : niceD y = true := by
  induction ds generalizing i with
  | nil => simp at e
  | cons d ds ih =>
    unfold niceAll at h
    rw [Bool.and_eq_true] at h
    cases i with
    | zero =>
      obtain rfl : d = y := Option.some.inj e
      exact h.1
    | succ i => exact ih h.2 e
theorem seq_of {K : PySem.W.Frag} {ex : List Addr} {H : Hp} {es : List Ent} {d : PyData} {u : V} (h : (isD "list" d || isD "tuple" d) = true) (r : Rp ex H d u) (nd : niceD d = true) : ∃ (g : Addr) (us : List V) (ds : List PyData) (b : Bool), u = .ref g ∧ Seqn K b H g us ∧ RpAll ex H ds us ∧ goneE es d = ds.findSome? (goneI es) ∧ niceAll ds = true ∧ g ∉ ex := by
  cases d with
  | list ds =>
    obtain ⟨g, us, rfl, n, hg, hs⟩ := r
    exact ⟨g, us, ds, true, rfl, ⟨hg⟩, hs, rfl, by simpa [niceD] using nd, n⟩
  | tuple ds =>
    obtain ⟨g, us, rfl, n, hg, hs⟩ := r
    exact ⟨g, us, ds, false, rfl, ⟨hg⟩, hs, rfl, by simpa [niceD] using nd, n⟩
  | _ => simp [isD, tyN] at h
/-- the entries by their names, exactly -/
structure EntsX (ex : List Addr) (d : Addr) (es : List Ent) (n : Nat) (H : Hp) : Prop where
  at_ : ∃ kvs : List (Key × V), H d = some (.dK kvs) ∧ kvs.length ≤ n ∧ (∀ (z : Str) (v : V), valV kvs (Sum.inr z : Key) = some v → ∃ e ∈ es, e.id = z ∧ Rp ex H e.data v) ∧ ∀ (j : Nat) (e : Ent), j < n → es[j]? = some e → (valV kvs (Sum.inr e.id : Key)).isSome = true
section
variable {P : Program} {w : World} {K : PySem.W.Frag} {mg : Str → Option Value} {base : Heap} {Cs : Nat → Addr}
theorem ok_retrX (DCheckRetracted : Fn K mg "check_retracted" sCheckRetracted ["log", "retracted"]) (DIsId : Fn K mg "is_id" sIsId ["value"]) (DCheckMayBeRetracted : Fn K mg "check_may_be_retracted" sCheckMayBeRetracted ["entry"]) (XI : ErrI K mg "UnknownId" "entry_id" sUnknownid) (GI : FnOk P w K mg base CX0 1 XI.fI XI.fd ["self", "entry_id"] (spInit XI.C "entry_id"))
    (c0 : XI.C = Cs 0) (b_isinstance : mg "isinstance" = none) (b_list : mg "list" = none) (b_tuple : mg "tuple" = none) (g1 : ∃ u, mg "ID" = some u ∧ L2.RelV (.int 1) u)
    (GIsId : FnOk P w K mg base CX0 1 DIsId.f DIsId.fd ["value"] (spIs (wordD 6 true))) (XMayBe : FnOk P w K mg base (L2.CX P w) 3 DCheckMayBeRetracted.f DCheckMayBeRetracted.fd ["entry"] (spMayBeX Cs)) :
    FnOk P w K mg base (L2.CX P w) 4 DCheckRetracted.f DCheckRetracted.fd ["log", "retracted"] (spRetrX Cs) := by
  refine DCheckRetracted.F.okX scCheckRetracted (fun vs H Q E h => ?_) (fun cdv A outer s H vs Q E hr h => ?_)
  · obtain ⟨v, u, es, d, ex, rfl, _⟩ := h
    rfl
  obtain ⟨v, u, es, d, ex, rfl, rv, ok, h100, rd, nd, yes, no⟩ := h
  have hu := hu_of hr
  have line : (10000 : Nat) < sizeLine := by decide
  refine ⟨_, pss_cons (ps_if (pt_not (pt_val (pe_callB (cr_isD2 (T := "list") (U := "tuple") (by decide) (by decide)) (by rfl) b_isinstance (by decide +kernel) (pa_cons (pv 1) (pa_cons (pe_tup (pa_cons (pe_bltn (v := .ty "list") rfl b_list (by rfl) rfl) (pa_cons (pe_bltn (v := .ty "tuple") rfl b_tuple (by rfl) rfl) pa_nil))) pa_nil)))))
      (pss_one (ps_raise rfl (takes_of rfl rfl rfl rfl) (pmk_erri GI XI.b XI.g XI.T XI.iC XI.tI hr (pv 1))))
      pss_nil)
      (pss_cons (ps_setDc (i := 2) (own := [("entry", 4)]) (g := gName 4) (tt := tYes) (by rfl) scCheckRetracted.nd rfl rfl (sw_dict rfl rfl rfl (by decide +kernel)) (piTupE K (pv 0)) (blkOk_by (N := ["log", "retracted", "entries", "entry_id", "entry"]) (sc := defScope sCheckRetracted) (by decide +kernel))
        (fun _ _ _ _ _ => pg_name (i := 4) scCheckRetracted.nd rfl (.inl rfl)) (fun _ _ _ _ _ => pts_nil) (fun _ _ _ _ _ => pe_ix (ixtE K) (pv 4) (pe_gc (v := .int 1) rfl g1) (fun _ _ => rfl)) (fun _ _ _ _ _ => pv 4))
      (pss_one (ps_for (passes_of rfl) rfl (pi_seq K (pv 1)) (pg_name (i := 3) scCheckRetracted.nd rfl (.inl rfl))
      (pss_cons (ps_if (pt_not (pt_val (pe_fn DIsId GIsId hr (pa_cons (pv 3) pa_nil))))
      (pss_one (ps_raise rfl (takes_of rfl rfl rfl rfl) (pmk_erri GI XI.b XI.g XI.T XI.iC XI.tI hr (pv 3))))
      pss_nil)
      (pss_one (ps_if (pt_cmp (pc_din hu (pv 3) (pv 2)))
      (pss_one (ps_expr (pe_fx DCheckMayBeRetracted XMayBe hr (takes_of rfl rfl rfl rfl) (pa_cons (pe_dget hu (pv 2) (pv 3) (fun _ _ => rfl)) pa_nil))))
      pss_nil)))))), ?_⟩
  obtain ⟨a, xs, rfl, na, ha, hx⟩ := rv
  have hl : es.length = xs.length := by
    have := hx.length
    rwa [List.length_map] at this
  refine ⟨_, rfl, by show 2 ≤ sizeLine; omega, fun tp ntp => ?_⟩
  have kt : Kp [] H (upd H tp (.tup [.ty "list", .ty "tuple"])) := Kp.laid ntp
  have ht : (upd H tp (.tup [.ty "list", .ty "tuple"])) tp = some (.tup [.ty "list", .ty "tuple"]) := upd_same
  have ha1 := kt _ _ (by simp) ha
  have hx1 := RpAll.keep (kt.mono (ex' := ex) (by simp)) _ _ hx
  have rd1 := Rp.keep (kt.mono (ex' := ex) (by simp)) _ _ rd
  obtain ⟨H1, e1⟩ : ∃ H1, upd H tp (.tup [.ty "list", .ty "tuple"]) = H1 := ⟨_, rfl⟩
  rw [e1] at kt ht ha1 hx1 rd1 ⊢
  refine ⟨u, d, ex, tp, rfl, ht, rd1, _, rfl, ?_⟩
  cases hseq : (isD "list" d || isD "tuple" d) with
  | false =>
    refine iteT ⟨_, rfl, fun dd H' k h' => ?_⟩
    have e : goneE es d = some (0, d) := by
      cases d with
      | list ds => simp [isD, tyN] at hseq
      | tuple ds => simp [isD, tyN] at hseq
      | _ => rfl
    rw [c0]
    exact no _ e dd u H' (kt.trans k) h' (Rp.keep (k.mono (by simp)) _ _ rd1)
  | true =>
  obtain ⟨g, us, ds, b, rfl, row, hds, hE, nds, ng⟩ := seq_of (K := K) (es := es) hseq rd1 nd
  refine iteF ?_
  refine ⟨_, rfl, a, rfl, ⟨xs, .inl (.inl ha1)⟩, fun D nD => ?_⟩
  have kD : Kp [] H1 (upd H1 D (.dK [])) := Kp.laid nD
  have naD : a ≠ D := fun z => by rw [z, nD] at ha1; cases ha1
  have hx2 : RpAll (D :: ex) (upd H1 D (.dK [])) (es.map Ent.data) xs := RpAll.keep (kD.mono (by simp)) _ _ (RpAll.apart nD _ _ hx1)
  refine dc_inv (J := Itt K a) xs.length (fun j H' => Kp [D] (upd H1 D (.dK [])) H' ∧ EntsX (D :: ex) D es j H') ⟨Kp.refl, [], upd_same, Nat.zero_le _, (fun z v h => by cases h), fun j e hj => absurd hj (by omega)⟩ ?_ (fun i H' hi ⟨k, _⟩ => ⟨xs, xs[i], .inl (.inl (k _ _ (by simpa using naD) (kD _ _ (by simp) ha1))), List.getElem?_eq_getElem hi⟩) ?_
  case refine_2 =>
    rintro i Hz x H2 hi ⟨k, kvs, e, l, gd, cm⟩ ⟨rfl, hxx⟩
    have hxi := hxx xs (.inl (.inl (k _ _ (by simpa using naD) (kD _ _ (by simp) ha1))))
    obtain ⟨d', hd, rd'⟩ := RpAll.back hx2 hxi
    obtain ⟨ee, hee, rfl⟩ : ∃ ee, es[i]? = some ee ∧ ee.data = d' := by
      rw [List.getElem?_map] at hd
      cases h : es[i]? with
      | none => rw [h] at hd; cases hd
      | some ee => rw [h] at hd; exact ⟨ee, rfl, Option.some.inj hd⟩
    have r2 := Rp.keep (k.mono (ex' := D :: ex) (by simp)) _ _ rd'
    obtain ⟨d1, ed1, hd1, _⟩ := ent_reads ee
    refine ⟨rfl, yes_on ?_⟩
    refine ⟨_, rfl, c_of (ent_ix r2 ed1 hd1 rfl fun vi ri => ?_)⟩
    obtain rfl : vi = .str ee.id := ri
    have kU : Kp (D :: ex) H2 (upd H2 D (.dK (putK kvs (Sum.inr ee.id) x))) := Kp.put (by simp)
    refine ⟨x, rfl, kvs, Sum.inr ee.id, rfl, e, by omega, k.trans (Kp.put (by simp)), _, upd_same, Nat.le_trans (length_putK _ _ _) (by omega), fun z v hv => ?_, fun j e' hj he' => ?_⟩
    · rw [valV_put] at hv
      by_cases hz : (Sum.inr z : Key) = Sum.inr ee.id
      · rw [if_pos hz] at hv
        obtain rfl := Option.some.inj hv
        exact ⟨ee, List.mem_of_getElem? hee, (Sum.inr.inj hz).symm, Rp.keep kU _ _ r2⟩
      · rw [if_neg hz] at hv
        obtain ⟨e', he', hid, r'⟩ := gd z v hv
        exact ⟨e', he', hid, Rp.keep kU _ _ r'⟩
    · rw [valV_put]
      by_cases hz : (Sum.inr e'.id : Key) = Sum.inr ee.id
      · rw [if_pos hz]
        rfl
      · rw [if_neg hz]
        by_cases hji : j = i
        · subst hji
          rw [hee] at he'
          obtain rfl := Option.some.inj he'
          exact absurd rfl hz
        · exact cm j e' (by omega) he'
  case refine_1 =>
    rintro H2 ⟨k, kvs, e, l, gd, cm⟩
    refine ⟨⟨xs, .inl (.inl (k _ _ (by simpa using naD) (kD _ _ (by simp) ha1))), Nat.le_refl _⟩, ?_⟩
    have k1 : Kp [] H1 H2 := Kp.drop ((kD.mono (by simp)).trans k) nD
    have k12 : Kp [] H H2 := kt.trans k1
    have row2 := row.keep0 k1
    refine ⟨_, rfl, g, us, b, rfl, row2.seq, for_row (K := K) (b := b) (a := g) (xs := us) (fun i σ H' => ∃ c3 : Option V, σ = [some (.ref a), some (.ref g), some (.ref D), c3, none] ∧ Kp [] H2 H' ∧ ∀ j y, j < i → ds[j]? = some y → goneI es y = none) ⟨none, rfl, Kp.refl, fun j y hj => absurd hj (by omega)⟩ ?_ ?_ ?_⟩
    · rintro i σ H' ⟨_, _, k', _⟩
      exact row2.keep0 k'
    · rintro i x σ H' hxi ⟨c3, rfl, k', before⟩
      obtain ⟨y, hy, ry⟩ := RpAll.back hds hxi
      have ry' := Rp.keep ((k1.trans k').mono (ex' := ex) (by simp)) _ _ ry
      have next : goneI es y = none → ∀ j y', j < i + 1 → ds[j]? = some y' → goneI es y' = none := fun hn j y' hj hy' => by
        by_cases hji : j = i
        · subst hji
          rw [hy] at hy'
          obtain rfl := Option.some.inj hy'
          exact hn
        · exact before j y' (by omega) hy'
      refine ⟨_, rfl, x, y, ex, rfl, ry', nice_at nds hy, _, rfl, ?_⟩
      cases hw : wordD 6 true y with
      | false =>
        refine iteT ⟨_, rfl, fun dd H3 k3 h3 => ?_⟩
        rw [c0]
        exact no (0, y) (by rw [hE]; exact find_at before hy (goneI_bad hw)) dd x H3 (k12.trans (k'.trans k3)) h3 (Rp.keep (k3.mono (by simp)) _ _ ry')
      | true =>
        cases y with
        | str z =>
          obtain rfl : x = .str z := ry
          have hz : idB z = true := hw
          refine iteF ?_
          refine ⟨_, rfl, _, rfl, D, _, rfl, DGet.k (k := Sum.inr z) (k' _ _ (by simp) e), ?_⟩
          cases hv : valV kvs (Sum.inr z : Key) with
          | none =>
            refine ⟨_, rfl, iteF ⟨_, rfl, k', next ?_⟩⟩
            rw [goneI_str hz]
            have hn : (es.find? fun e => decide (e.id = z)) = none := by
              rw [List.find?_eq_none]
              intro e' he' hq
              obtain ⟨j, hj, ej⟩ := List.getElem_of_mem he'
              have := cm j e' (by omega) (by rw [List.getElem?_eq_getElem hj, ej])
              rw [of_decide_eq_true hq, hv] at this
              cases this
            rw [hn]
          | some v =>
            obtain ⟨e', he', rfl, r'⟩ := gd z v hv
            have hg : goneI es (.str e'.id) = (mayE e').map fun i => (i, PyData.str e'.id) := by rw [goneI_str hz, find_id ok.nd he']
            refine ⟨_, rfl, iteT ⟨_, rfl, _, rfl, D, v, rfl, by rw [← hv]; exact DGet.k (k := Sum.inr e'.id) (k' _ _ (by simp) e), ?_⟩⟩
            refine ⟨v, e', D :: ex, rfl, Rp.keep (k'.mono (by simp)) _ _ r', fun hm => ⟨_, rfl, k', next (by rw [hg, hm]; rfl)⟩, fun i' hm dd x' H3 k3 h3 r3 => ?_⟩
            exact no (i', .str e'.id) (by rw [hE]; exact find_at before hy (by rw [hg, hm]; rfl)) dd x' H3 (k12.trans (k'.trans k3)) h3 r3
        | _ => cases hw
    · rintro σ H' ⟨c3, rfl, k', before⟩
      have hlen := hds.length
      exact yes (by rw [hE]; exact find_none fun j y hj hy => before j y (by omega) hy) H' (k12.trans k')
end
end NV
/-! TargX -/
set_option Elab.async false
set_option linter.all false
set_option maxRecDepth 100000
set_option maxHeartbeats 1000000
/-! the package's is_read_at, check_reads, check_target, asked of anything -/
namespace NV
open PySem PySem.Spec PyProof.Rows L2
open C8 (pss_cut pe_gc)
def rdAt (es : List Ent) (k : Nat) (d : PyData) : Bool := match es[k]? with
  | some e => e.rs.any fun z => strD z d
  | none => wordD 4 false d
def readE (es : List Ent) (k : Nat) (d : PyData) : Option (Nat × PyData) := if rdAt es k d = true then none else some (1, d)
def goalE (es : List Ent) : PyData → Option (Nat × PyData)
  | .tuple [r, c] => (match posD es r with
    | none => some (0, r)
    | some k => if writeAt es k = true then some (0, r) else readE es k c)
  | d => some (0, d)
def spReadAtX : Sp := fun vs H Q _ => ∃ (v u : V) (es : List Ent) (d : PyData) (ex : List Addr) (k : Nat), vs = [v, .int (k : Nat), u] ∧ Rp ex H (logD es) v ∧ Rp ex H d u ∧ niceD d = true ∧ k ≤ es.length ∧ Q (.bl (rdAt es k d)) H
def spReadsX (Cs : Nat → Addr) : Sp := fun vs H Q E => ∃ (v u : V) (es : List Ent) (d : PyData) (ex : List Addr) (k : Nat), vs = [v, .int (k : Nat), u] ∧ Rp ex H (logD es) v ∧ Rp ex H d u ∧ niceD d = true ∧ k ≤ es.length ∧ (readE es k d = none → Q .non H) ∧ ∀ r, readE es k d = some r → ErrTo Cs ex H E r
def spTargX (Cs : Nat → Addr) : Sp := fun vs H Q E => ∃ (v u : V) (es : List Ent) (d : PyData) (ex : List Addr), vs = [v, u] ∧ Rp ex H (logD es) v ∧ Rp ex H d u ∧ niceD d = true ∧ (goalE es d = none → ∀ H', Kp [] H H' → Q .non H') ∧ ∀ r, goalE es d = some r → ErrTo Cs ex H E r
theorem goalE_not {es : List Ent} {d : PyData} (h : isD "tuple" d = false) : goalE es d = some (0, d) := by
  cases d with
  | tuple ds => simp [isD, tyN] at h
  | _ => rfl
theorem goalE_len {es : List Ent} : ∀ {ds : List PyData}, ds.length ≠ 2 → goalE es (.tuple ds) = some (0, .tuple ds)
  | [], _ => rfl
  | [_], _ => rfl
  | [_, _], h => absurd rfl h
  | _ :: _ :: _ :: _, _ => rfl
section
variable {P : Program} {w : World} {K : PySem.W.Frag} {mg : Str → Option Value} {base : Heap} {Cs : Nat → Addr}
theorem ok_readatX (DIsReadAt : Fn K mg "is_read_at" sIsReadAt ["log", "position", "cell"]) (DIsCell : Fn K mg "is_cell" sIsCell ["value"]) (b_len : mg "len" = none) (g2 : ∃ u, mg "READS" = some u ∧ L2.RelV (.int 2) u)
    (GIsCell : FnOk P w K mg base CX0 2 DIsCell.f DIsCell.fd ["value"] (spIs (wordD 4 false))) : FnOk P w K mg base CX0 3 DIsReadAt.f DIsReadAt.fd ["log", "position", "cell"] spReadAtX := by
  refine DIsReadAt.F.ok scIsReadAt (fun vs H Q E h => ?_) (fun cdv A outer s H vs Q E hr h => ?_)
  · obtain ⟨v, u, es, d, ex, k, rfl, _⟩ := h
    rfl
  obtain ⟨v, u, es, d, ex, k, rfl, rv, rd, nd, hk, q⟩ := h
  refine ⟨_, pss_one (ps_ret (pe_ifExp (pt_cmpR op_eq (pv 1) (pe_callB (lenE K) (by rfl) b_len (by decide +kernel) (pa_cons (pv 0) pa_nil)) (nomark _)) (pe_fn DIsCell GIsCell hr (pa_cons (pv 2) pa_nil))
      (pe_cmpR (op_inSD K hr.units) (pv 2) (pe_ix (ixtE K) (pe_ix (ixtE K) (pv 0) (pv 1) (fun _ _ => rfl)) (pe_gc (v := .int 2) rfl g2) (fun _ _ => rfl)) (by rfl)))), ?_⟩
  obtain ⟨a, xs, rfl, na, ha, hx⟩ := rv
  have hl : es.length = xs.length := by
    have := hx.length
    rwa [List.length_map] at this
  refine ⟨_, rfl, _, rfl, a, xs, rfl, .inr (.inl (.inl ha)), rfl, _, rfl, ?_⟩
  by_cases he : k = es.length
  · rw [decide_eq_true (show V.int (k : Nat) = V.int (xs.length : Nat) by rw [he, hl])]
    have e : rdAt es k d = wordD 4 false d := by unfold rdAt; rw [he, List.getElem?_eq_none (Nat.le_refl _)]
    rw [e] at q
    exact iteT ⟨_, rfl, u, d, ex, rfl, rd, nd, q⟩
  · rw [decide_eq_false (show ¬ V.int (k : Nat) = V.int (xs.length : Nat) from fun h => by have := V.int.inj h; omega)]
    obtain ⟨e, hek⟩ : ∃ e, es[k]? = some e := ⟨_, List.getElem?_eq_getElem (by omega)⟩
    have e2 : rdAt es k d = e.rs.any fun z => strD z d := by unfold rdAt; rw [hek]
    rw [e2] at q
    obtain ⟨d2, ed2, _, hd2⟩ := ent_reads e
    refine iteF ⟨_, rfl, _, rfl, _, rfl, ixD (j := k) rfl ha hx (by rw [List.getElem?_map, hek]; rfl) fun ve re => c_of (ent_ix re ed2 hd2 rfl fun u2 ru => ?_)⟩
    obtain ⟨ra, cs, rfl, nra, hra, hcs⟩ := ru
    obtain rfl := strs_of hcs
    exact ⟨d, ex, e.rs, ra, rd, rfl, .inr (.inl (.inl hra)), q⟩
theorem ok_readsX (DCheckReads : Fn K mg "check_reads" sCheckReads ["log", "position", "cell"]) (DIsReadAt : Fn K mg "is_read_at" sIsReadAt ["log", "position", "cell"]) (XC : ErrI K mg "UnknownCell" "cell" sUnknowncell) (GC : FnOk P w K mg base CX0 1 XC.fI XC.fd ["self", "cell"] (spInit XC.C "cell")) (c1 : XC.C = Cs 1)
    (GIsReadAt : FnOk P w K mg base CX0 3 DIsReadAt.f DIsReadAt.fd ["log", "position", "cell"] spReadAtX) :
    FnOk P w K mg base (L2.CX P w) 4 DCheckReads.f DCheckReads.fd ["log", "position", "cell"] (spReadsX Cs) := by
  refine DCheckReads.F.okX scCheckReads (fun vs H Q E h => ?_) (fun cdv A outer s H vs Q E hr h => ?_)
  · obtain ⟨v, u, es, d, ex, k, rfl, _⟩ := h
    rfl
  obtain ⟨v, u, es, d, ex, k, rfl, rv, rd, nd, hk, yes, no⟩ := h
  refine ⟨_, pss_one (ps_if (pt_not (pt_val (pe_fn DIsReadAt GIsReadAt hr (pa_cons (pv 0) (pa_cons (pv 1) (pa_cons (pv 2) pa_nil))))))
      (pss_one (ps_raise rfl (takes_of rfl rfl rfl rfl) (pmk_erri GC XC.b XC.g XC.T XC.iC XC.tI hr (pv 2))))
      pss_nil), ?_⟩
  refine ⟨_, rfl, _, rfl, _, rfl, v, u, es, d, ex, k, rfl, rv, rd, nd, hk, _, rfl, ?_⟩
  cases hr : rdAt es k d with
  | true => exact iteF (yes (by unfold readE; rw [if_pos hr]))
  | false =>
    refine iteT ⟨_, rfl, fun dd H' k' h' => ?_⟩
    rw [c1]
    exact no (1, d) (by unfold readE; rw [if_neg (by rw [hr]; simp)]) dd u H' k' h' (Rp.keep (k'.mono (by simp)) _ _ rd)
theorem ok_targX (DCheckTarget : Fn K mg "check_target" sCheckTarget ["log", "target"]) (DPositionIn : Fn K mg "position_in" sPositionIn ["log", "entry_id"]) (DIsWriteAt : Fn K mg "is_write_at" sIsWriteAt ["log", "position"]) (DCheckReads : Fn K mg "check_reads" sCheckReads ["log", "position", "cell"])
    (XI : ErrI K mg "UnknownId" "entry_id" sUnknownid) (GI : FnOk P w K mg base CX0 1 XI.fI XI.fd ["self", "entry_id"] (spInit XI.C "entry_id")) (c0 : XI.C = Cs 0) (b_isinstance : mg "isinstance" = none) (b_tuple : mg "tuple" = none) (b_len : mg "len" = none)
    (XPositionIn : FnOk P w K mg base (L2.CX P w) 3 DPositionIn.f DPositionIn.fd ["log", "entry_id"] (spPosX XI.C)) (GIsWriteAt : FnOk P w K mg base CX0 1 DIsWriteAt.f DIsWriteAt.fd ["log", "position"] spWriteAt) (XCheckReads : FnOk P w K mg base (L2.CX P w) 4 DCheckReads.f DCheckReads.fd ["log", "position", "cell"] (spReadsX Cs)) :
    FnOk P w K mg base (L2.CX P w) 5 DCheckTarget.f DCheckTarget.fd ["log", "target"] (spTargX Cs) := by
  refine DCheckTarget.F.okX scCheckTarget (fun vs H Q E h => ?_) (fun cdv A outer s H vs Q E hr h => ?_)
  · obtain ⟨v, u, es, d, ex, rfl, _⟩ := h
    rfl
  obtain ⟨v, u, es, d, ex, rfl, rv, rd, nd, yes, no⟩ := h
  refine ⟨_, pss_cons (ps_if (PW.pt (pw_or (pt_not (pt_val (pe_callB (cr_isD (T := "tuple") (by decide)) (by rfl) b_isinstance (by decide +kernel) (pa_cons (pv 1) (pa_cons (pe_bltn (v := .ty "tuple") rfl b_tuple (by rfl) rfl) pa_nil))))) (pw_or1 (pt_cmpR op_ne (pe_callB (lenE K) (by rfl) b_len (by decide +kernel) (pa_cons (pv 1) pa_nil)) pe_int (nomark _)))))
      (pss_one (ps_raise rfl (takes_of rfl rfl rfl rfl) (pmk_erri GI XI.b XI.g XI.T XI.iC XI.tI hr (pv 1))))
      pss_nil)
      (pss_cons (ps_asg (pv 1) (pg_tupE K (by rfl) (pgs_cons (pg_name (i := 3) scCheckTarget.nd rfl (.inl rfl)) (pgs_cons (pg_name (i := 4) scCheckTarget.nd rfl (.inl rfl)) pgs_nil))))
      (pss_cons (ps_set (i := 2) scCheckTarget.nd rfl (.inl rfl) (pe_fx DPositionIn XPositionIn hr (takes_of rfl rfl rfl rfl) (pa_cons (pv 0) (pa_cons (pv 3) pa_nil))))
      (pss_cons (ps_if (pt_val (pe_fn DIsWriteAt GIsWriteAt hr (pa_cons (pv 0) (pa_cons (pv 2) pa_nil))))
      (pss_one (ps_raise rfl (takes_of rfl rfl rfl rfl) (pmk_erri GI XI.b XI.g XI.T XI.iC XI.tI hr (pv 3))))
      pss_nil)
      (pss_one (ps_expr (pe_fx DCheckReads XCheckReads hr (takes_of rfl rfl rfl rfl) (pa_cons (pv 0) (pa_cons (pv 2) (pa_cons (pv 4) pa_nil))))))))), ?_⟩
  refine ⟨_, rfl, u, d, ex, rfl, rd, _, rfl, ?_⟩
  cases ht : isD "tuple" d with
  | false =>
    refine iteT (iteT ⟨_, rfl, fun dd H' k h' => ?_⟩)
    rw [c0]
    exact no _ (goalE_not ht) dd u H' k h' (Rp.keep (k.mono (by simp)) _ _ rd)
  | true =>
  cases d with
  | tuple ds =>
    obtain ⟨t, us, rfl, nt, hut, hus⟩ := id rd
    refine iteF ⟨_, rfl, t, us, rfl, .inr (.inl (.inl hut)), rfl, _, rfl, ?_⟩
    have hlen := hus.length
    by_cases h2 : ds.length = 2
    · match ds, us, h2, hus with
      | [r, c], _, _, ⟨x, _, rfl, rx, y, _, rfl, ry, rfl⟩ =>
      rw [show (!decide (V.int (([x, y] : List V).length : Nat) = V.int 2)) = false from rfl]
      have nds : niceD r = true ∧ niceD c = true := by simpa [niceD, niceAll] using nd
      refine iteF ⟨_, rfl, t, _, rfl, .inl (.inl hut), rfl, _, _, rfl, _, _, rfl, rfl, ?_⟩
      refine ⟨_, rfl, _, rfl, v, x, es, r, ex, rfl, rv, rx, fun k hk H1 k1 => ?_, fun hn dd H' k' h' => ?_⟩
      · have rv1 := Rp.keep (k1.mono (ex' := ex) (by simp)) _ _ rv
        refine ⟨_, rfl, _, rfl, v, es, ex, k, rfl, rv1, _, rfl, ?_⟩
        have eg : goalE es (.tuple [r, c]) = if writeAt es k = true then some (0, r) else readE es k c := by show (match posD es r with | none => _ | some k => _) = _; rw [hk]
        cases hw : writeAt es k with
        | true =>
          rw [hw] at eg
          refine iteT ⟨_, rfl, fun dd H' k' h' => ?_⟩
          rw [c0]
          exact no _ eg dd x H' (k1.trans k') h' (Rp.keep ((k1.trans k').mono (by simp)) _ _ rx)
        | false =>
          rw [hw] at eg
          exact iteF ⟨_, rfl, _, rfl, _, rfl, v, y, es, c, ex, k, rfl, rv1, Rp.keep (k1.mono (by simp)) _ _ ry, nds.2, posD_le hk, fun hn => yes (eg.trans hn) H1 k1, fun r' hr' dd x' H' k' h' r2 => no r' (eg.trans hr') dd x' H' (k1.trans k') h' r2⟩
      · rw [c0]
        refine no (0, r) ?_ dd x H' k' h' (Rp.keep (k'.mono (by simp)) _ _ rx)
        show (match posD es r with | none => _ | some k => _) = _
        rw [hn]
    · rw [decide_eq_false (show ¬ V.int (us.length : Nat) = V.int 2 from fun h => by have := V.int.inj h; omega)]
      refine iteT ⟨_, rfl, fun dd H' k h' => ?_⟩
      rw [c0]
      exact no _ (goalE_len h2) dd (.ref t) H' k h' (Rp.keep (k.mono (by simp)) _ _ rd)
  | _ => simp [isD, tyN] at ht
end
end NV
/-! CallX -/
set_option Elab.async false
set_option linter.all false
set_option maxRecDepth 100000
set_option maxHeartbeats 600000
/-! a def of the top called in several ways, where it may raise -/
namespace NV
open PySem PySem.Spec PyProof.Rows L2
section
variable {K : PySem.W.Frag} {h : Heap} {mg : Str → Option Value} {nm : Str} {st : Stmt} {q : Str} {φ : Value → Prop}
/-- how a def is called by keywords without its keyword-only parameter q -/
theorem kwl_at {ks ps : List Str} {n : Nat} (X : K.In h) (G : h.Ns mainGlobals mg) (a : AtQ K nm st q φ) (D : FnF K mg nm st)
    (hb : ∀ (Dk : Addr) (doc pm : Value) (an : Option Addr) (cdv ct : Value) (us mv ws : List Value), us.length = n → mv.length = 1 → ws.length = ks.length → KwChain Dk ([q].zip mv) (bindArgs (PySem.W.fnOf nm nm (defArgs st) (defBody st) (defScope st) .none (.ref Dk) doc pm an cdv ct) ⟨us, ks.zip ws⟩) (ps.zip (us ++ ws ++ mv))) :
    ∃ u, φ u ∧ ∀ v, RelV v u → ∃ g, KBn K D.fd ps n ks g (fun vs zs => vs ++ zs ++ [v]) := by
  obtain ⟨f, Dk, oc, od, doc, pm, an, cd, ct, sl, u, a1, l1, c1, k1, d1, p1⟩ := a
  obtain ⟨f', fd', F', m'⟩ := D
  have e1 := PySem.W.mg_of X G a1
  rw [m'] at e1
  cases e1
  obtain ⟨oc', od', kV', doc', pm', an', cdv', ct', osl', e2, lk', hcd'⟩ := F'.ex
  rw [l1] at lk'
  have e3 := congrArg Obj.data (Option.some.inj lk')
  have e4 : PySem.W.fnOf nm nm (defArgs st) (defBody st) (defScope st) .none (.ref Dk) doc pm an cd ct = fd' := by
    injection e3
  refine ⟨u, p1, fun v rv => ?_⟩
  have F : FunD K nm nm (defArgs st) (defBody st) (defScope st) [] [(q, v)] f fd' := by
    rw [← e4]
    exact ⟨⟨oc, od, .none, .ref Dk, doc, pm, an, cd, ct, sl, rfl, l1, c1, .inl ⟨rfl, rfl⟩, .inr ⟨Dk, rfl, fun p hp => ⟨u, by rw [List.mem_singleton.mp hp]; exact ⟨d1, rv⟩⟩⟩⟩, k1⟩
  obtain ⟨mv, B⟩ := F.kbinds0 (ps := ps) n ks [(q, v)] (fun us mv ws => us ++ ws ++ mv) (by simp) (fun _ hq => hq) (fun r1 r2 r3 => (r1.append r3).append r2) fun D doc pm an cdv ct us mv ws h1 h2 h3 => hb D doc pm an cdv ct us mv ws h1 h2 h3
  exact ⟨_, B⟩
end
section
variable {X : Cx} {E : XK} {nm : Str} {st : Stmt} {ps ks : List Str} {sp : Sp} {e : Expr} {es : List Expr} {kws : List Keyword} {t tk : TA} {p pos : Pos} {j k n : Nat} {g : List Value → List Value → List Value} {gV : List V → List V → List V}
theorem pe_qx (D : FnF X.K X.mg nm st) (B : KBn X.K D.fd ps n ks g gV) (G : FnOk X.prog X.w X.K X.mg X.base (L2.CX X.prog X.w) j D.f D.fd ps sp) (hr : Room k X.A) (tk' : Takes X fun cls d _ H => E cls d H) (ha : PA X (e :: es) t) (hkw : PK X kws tk)
    (hk : j ≤ k := by decide) (hg : Gl X nm := by rfl) (hall : ((backToKw pos (keywordEach kws X.env)).all (·.1.isSome)) = true := by rfl) (hks : (backToKw pos (keywordEach kws X.env)).filterMap (·.1) = ks := by rfl) (hdb : (nm == ("__debug__" : Str)) = false := by decide)
    (he : starEach (e :: es) X.env = (false, eval e X.env) :: starEach es X.env := by rfl) (hpl : (((backTo pos (starEach (e :: es) X.env)).any (·.1)) || ((backToKw pos (keywordEach kws X.env)).any (·.1.isNone))) = false := by rfl) :
    PE X (.Call (.Name nm p) (e :: es) kws pos) (tCallN n ks.length sp gV E t tk) := pe_callN G (hr.mono hk) hg D.m D.F.kp B (pass_all tk') ha hkw hall hks hdb he hpl
def tCallWX (m : Nat) (sp : Sp) (gV : List V → List V → List V) (E : XK) (tk : TA) : TE := fun σ H Q => tk σ H fun zs H2 => zs.length = m ∧ sp (gV [] zs) H2 Q E
theorem pe_q0x (D : FnF X.K X.mg nm st) (B : KBn X.K D.fd ps 0 ks g gV) (G : FnOk X.prog X.w X.K X.mg X.base (L2.CX X.prog X.w) j D.f D.fd ps sp) (hr : Room k X.A) (tk' : Takes X fun cls d _ H => E cls d H) (hkw : PK X kws tk)
    (hk : j ≤ k := by decide) (hg : Gl X nm := by rfl) (hall : ((backToKw pos (keywordEach kws X.env)).all (·.1.isSome)) = true := by rfl) (hks : (backToKw pos (keywordEach kws X.env)).filterMap (·.1) = ks := by rfl) (hdb : (nm == ("__debug__" : Str)) = false := by decide)
    (hpl : (((backTo pos (starEach [] X.env)).any (·.1)) || ((backToKw pos (keywordEach kws X.env)).any (·.1.isNone))) = false := by rfl) :
    PE X (.Call (.Name nm p) [] kws pos) (tCallWX ks.length sp gV E tk) := by
  refine ⟨fun pins s σ H Q I h => ?_⟩
  refine wpAny_Call_Name_kw (ld_glob I hg D.m ?_ hdb)
  refine PySem.W.callWith_KW0 (h₀ := X.base) I.ok.mod.kin D.F.kp hall (thn (hkw.run pos pins s σ H _ I h) fun ws s2 ⟨zs, H2, I2, rz, l2, q2⟩ => ⟨I2.kIn, ?_⟩) hpl
  rw [hks]
  exact run_fnN (vs := []) G (hr.mono hk) B (pass_all tk') I2 .nil rz rfl l2 q2
/-- f(k = v, ..), a def that may raise, asked rightly -/
theorem pe_q0L (D : FnF X.K X.mg nm st) (B : KBn X.K D.fd ps 0 ks g gV) (G : FnOk X.prog X.w X.K X.mg X.base (L2.CX X.prog X.w) j D.f D.fd ps sp) (hr : Room k X.A) (hkw : PK X kws tk)
    (hk : j ≤ k := by decide) (hg : Gl X nm := by rfl) (hall : ((backToKw pos (keywordEach kws X.env)).all (·.1.isSome)) = true := by rfl) (hks : (backToKw pos (keywordEach kws X.env)).filterMap (·.1) = ks := by rfl) (hdb : (nm == ("__debug__" : Str)) = false := by decide)
    (hpl : (((backTo pos (starEach [] X.env)).any (·.1)) || ((backToKw pos (keywordEach kws X.env)).any (·.1.isNone))) = false := by rfl) :
    PE X (.Call (.Name nm p) [] kws pos) (tCallWX ks.length sp gV L2.E0 tk) := by
  refine ⟨fun pins s σ H Q I h => ?_⟩
  refine wpAny_Call_Name_kw (ld_glob I hg D.m ?_ hdb)
  refine PySem.W.callWith_KW0 (h₀ := X.base) I.ok.mod.kin D.F.kp hall (thn (hkw.run pos pins s σ H _ I h) fun ws s2 ⟨zs, H2, I2, rz, l2, q2⟩ => ⟨I2.kIn, ?_⟩) hpl
  rw [hks]
  exact run_fnN (vs := []) G (hr.mono hk) B passL I2 .nil rz rfl l2 q2
theorem pe_qnx (D : FnF X.K X.mg nm st) (B : Binds X.K D.fd ps []) (G : FnOk X.prog X.w X.K X.mg X.base (L2.CX X.prog X.w) j D.f D.fd ps sp) (hr : Room k X.A) (tk' : Takes X fun cls d _ H => E cls d H) (ha : PA X (e :: es) t)
    (hk : j ≤ k := by decide) (hg : Gl X nm := by rfl) (hdb : (nm == ("__debug__" : Str)) = false := by decide) (he : starEach (e :: es) X.env = (false, eval e X.env) :: starEach es X.env := by rfl) (hpl : (backTo pos (starEach es X.env)).any (·.1) = false := by rfl) :
    PE X (.Call (.Name nm p) (e :: es) [] pos) (tCall sp [] E t) := pe_call G (hr.mono hk) hg D.m D.F.kp B .nil (pass_all tk') ha hdb he hpl
theorem pe_qlx {dvs : List V} (D : FnF X.K X.mg nm st) (B : Lack X.K D.fd ps dvs) (G : FnOk X.prog X.w X.K X.mg X.base (L2.CX X.prog X.w) j D.f D.fd ps sp) (hr : Room k X.A) (tk' : Takes X fun cls d _ H => E cls d H) (ha : PA X (e :: es) t)
    (hk : j ≤ k := by decide) (hg : Gl X nm := by rfl) (hdb : (nm == ("__debug__" : Str)) = false := by decide) (he : starEach (e :: es) X.env = (false, eval e X.env) :: starEach es X.env := by rfl) (hpl : (backTo pos (starEach es X.env)).any (·.1) = false := by rfl) :
    PE X (.Call (.Name nm p) (e :: es) [] pos) (tCall sp dvs E t) := by
  obtain ⟨ds, vs, b⟩ := B.ex
  exact pe_call G (hr.mono hk) hg D.m D.F.kp b vs (pass_all tk') ha hdb he hpl
end
end NV
/-! DepX -/
set_option Elab.async false
set_option linter.all false
set_option maxRecDepth 100000
set_option maxHeartbeats 1000000
/-! the package's dependencies, dependency_set, source_of, asked of anything -/
namespace NV
open PySem PySem.Spec PyProof.Rows L2
open C8 (pss_cut pe_gc)
def strOf : PyData → Option Str
  | .str z => some z
  | _ => none
def namesD : PyData → List Str
  | .list ds => ds.filterMap strOf
  | .tuple ds => ds.filterMap strOf
  | _ => []
theorem goneI_none {es : List Ent} (nd : (es.map Ent.id).Nodup) {d : PyData} (h : goneI es d = none) : ∃ z, d = .str z ∧ idB z = true ∧ ∀ e ∈ es, e.id = z → e.isW = true ∧ e.pr ≠ none := by
  cases d with
  | str z =>
    cases hz : idB z with
    | false => rw [goneI_bad (show wordD 6 true (.str z) = false from hz)] at h; cases h
    | true =>
      refine ⟨z, rfl, hz, fun e he hid => ?_⟩
      subst hid
      rw [goneI_str hz, find_id nd he] at h
      dsimp only at h
      have hm : mayE e = none := by
        cases hm : mayE e with
        | none => rfl
        | some i => rw [hm] at h; cases h
      unfold mayE at hm
      cases hw : e.isW with
      | false => rw [if_pos hw] at hm; cases hm
      | true =>
        rw [hw, if_neg (by simp)] at hm
        exact ⟨rfl, fun hp => by rw [if_pos hp] at hm; cases hm⟩
  | _ => cases h
theorem names_all {es : List Ent} (nd : (es.map Ent.id).Nodup) : ∀ {ds : List PyData}, ds.findSome? (goneI es) = none → ds = (ds.filterMap strOf).map PyData.str ∧ GoneOk es (ds.filterMap strOf)
  | [], _ => ⟨rfl, fun z hz => by cases hz⟩
  | d :: ds, h => by
    have h1 : goneI es d = none := by
      cases e : goneI es d with
      | none => rfl
      | some r => simp [List.findSome?, e] at h
    have h2 : ds.findSome? (goneI es) = none := by simpa [List.findSome?, h1] using h
    obtain ⟨z, rfl, hz, hall⟩ := goneI_none nd h1
    obtain ⟨i1, i2⟩ := names_all nd h2
    have e : (PyData.str z :: ds).filterMap strOf = z :: ds.filterMap strOf := rfl
    rw [e]
    refine ⟨by rw [List.map_cons, ← i1], fun y hy => ?_⟩
    rcases List.mem_cons.mp hy with q | q
    · rw [q]; exact ⟨hz, hall⟩
    · exact i2 y q
/-- retractions that are right -/
theorem gone_ok {K : PySem.W.Frag} {ex : List Addr} {H : Hp} {es : List Ent} {d : PyData} {u : V} (nd : (es.map Ent.id).Nodup) (h : goneE es d = none) (r : Rp ex H d u) : ∃ (g : Addr) (b : Bool), u = .ref g ∧ Names K b H g (namesD d) ∧ GoneOk es (namesD d) := by
  cases d with
  | list ds =>
    obtain ⟨e1, e2⟩ := names_all nd (show ds.findSome? (goneI es) = none from h)
    obtain ⟨g, us, rfl, _, hg, hs⟩ := r
    rw [e1] at hs
    rw [strs_of hs] at hg
    exact ⟨g, true, rfl, hg, e2⟩
  | tuple ds =>
    obtain ⟨e1, e2⟩ := names_all nd (show ds.findSome? (goneI es) = none from h)
    obtain ⟨g, us, rfl, _, hg, hs⟩ := r
    rw [e1] at hs
    rw [strs_of hs] at hg
    exact ⟨g, false, rfl, .inl (.inl hg), e2⟩
  | _ => cases h
theorem posG_min {z : Str} : ∀ {es : List Ent} {k m : Nat}, posG z es k = some m → ∀ j e, k + j < m → es[j]? = some e → e.id ≠ z
  | [], _, _, h => by cases h
  | u :: l, k, m, h => fun j e hj he => by
    unfold posG at h
    by_cases hu : u.id = z
    · rw [if_pos hu] at h
      have := Option.some.inj h
      omega
    · rw [if_neg hu] at h
      cases j with
      | zero =>
        obtain rfl : u = e := Option.some.inj he
        exact hu
      | succ j => exact posG_min h j e (by omega) he
theorem posS_pos {es : List Ent} {z : Str} {k : Nat} (h : posS es z = some k) : PosOf es z k := by
  unfold posS at h
  by_cases hz : z = ""
  · rw [if_pos hz] at h
    exact .inl ⟨hz, (Option.some.inj h).symm⟩
  · rw [if_neg hz] at h
    obtain ⟨i, e, h1, h2, h3⟩ := posG_is h
    obtain rfl : k = i := by omega
    exact .inr ⟨hz, ⟨e, h2, h3⟩, fun j e' hj he' => posG_min h j e' (by omega) he'⟩
theorem rdAt_ok {es : List Ent} {k : Nat} {d : PyData} (ok : ∀ e ∈ es, e.Ok) (h : rdAt es k d = true) : ∃ c, d = .str c ∧ cellB c = true ∧ ∀ e, es[k]? = some e → c ∈ e.rs := by
  unfold rdAt at h
  cases he : es[k]? with
  | none =>
    rw [he] at h
    cases d with
    | str c => exact ⟨c, rfl, h, fun e z => by cases z⟩
    | _ => cases h
  | some e =>
    rw [he] at h
    obtain ⟨z, hz, hs⟩ := List.any_eq_true.mp h
    have ok' := ok e (List.mem_of_getElem? he)
    refine ⟨z, strD_iff.mp hs, ?_, fun e' q => by cases q; exact hz⟩
    cases e with
    | wr id rs ws pr => exact ok'.2.1.ok z hz
    | qu id cs => exact ok'.2.ok z hz
theorem readE_ok {es : List Ent} {k : Nat} {d : PyData} (ok : ∀ e ∈ es, e.Ok) (h : readE es k d = none) : ∃ c, d = .str c ∧ cellB c = true ∧ ∀ e, es[k]? = some e → c ∈ e.rs := by
  unfold readE at h
  cases hr : rdAt es k d with
  | false => rw [hr] at h; cases h
  | true => exact rdAt_ok ok hr
/-- a target that is right -/
theorem goal_ok {ex : List Addr} {H : Hp} {es : List Ent} {d : PyData} {u : V} (ok : ∀ e ∈ es, e.Ok) (h : goalE es d = none) (r : Rp ex H d u) : ∃ (t : Addr) (z c : Str) (k : Nat), u = .ref t ∧ H t = some (.tup [.str z, .str c]) ∧ TargetOk es z c k := by
  cases d with
  | tuple ds =>
    match ds, h, r with
    | [], h, _ => cases h
    | [_], h, _ => cases h
    | _ :: _ :: _ :: _, h, _ => cases h
    | [a, b], h, r =>
      have h : (match posD es a with | none => some (0, a) | some k => if writeAt es k = true then some (0, a) else readE es k b) = none := h
      cases hp : posD es a with
      | none => rw [hp] at h; cases h
      | some k =>
        rw [hp] at h
        dsimp only at h
        cases hw : writeAt es k with
        | true => rw [hw] at h; cases h
        | false =>
          rw [hw] at h
          obtain ⟨c, rfl, hc, hrd⟩ := readE_ok ok h
          obtain ⟨t, us, rfl, _, ht, x, vs, rfl, rx, y, vs2, rfl, ry, rfl⟩ := r
          cases a with
          | str z =>
            obtain rfl : x = .str z := rx
            obtain rfl : y = .str c := ry
            exact ⟨t, z, c, k, rfl, ht, posS_pos hp, hw, hc, hrd⟩
          | _ => cases hp
  | _ => cases h
def depE (es : List Ent) (dg dt : PyData) : Option (Nat × PyData) := match goneE es dg with
  | some r => some r
  | none => goalE es dt
def srcE (es : List Ent) (dg dr dc : PyData) : Option (Nat × PyData) := match goneE es dg with
  | some r => some r
  | none => match posD (liveB es (namesD dg)) dr with
    | none => some (0, dr)
    | some k => readE (liveB es (namesD dg)) k dc
/-- what is asked of the arguments: a log, retractions of any kind -/
structure AskG (ex : List Addr) (H : Hp) (es : List Ent) (dg : PyData) (v g : V) : Prop where
  log : Rp ex H (logD es) v
  ok : LogOk es
  h60 : es.length ≤ 60
  gone : Rp ex H dg g
  nice : niceD dg = true
  few : (namesD dg).length ≤ 1000
  live : Live ex H
def spDepX (Cs : Nat → Addr) : Sp := fun vs H Q E => ∃ (v u g : V) (es : List Ent) (dt dg : PyData) (ex : List Addr), vs = [v, u, g] ∧ AskG ex H es dg v g ∧ Rp ex H dt u ∧ niceD dt = true ∧
  (depE es dg dt = none → ∀ p H' (rows : List Row), Kp [] H H' → Rp ex H' (.list (rows.map rowD)) (.ref p) → rows.length ≤ 10000 → Q (.ref p) H') ∧ ∀ r, depE es dg dt = some r → ErrTo Cs ex H E r
def spSetX (Cs : Nat → Addr) : Sp := fun vs H Q E => ∃ (v u g : V) (es : List Ent) (dt dg : PyData) (ex : List Addr), vs = [v, u, g] ∧ AskG ex H es dg v g ∧ Rp ex H dt u ∧ niceD dt = true ∧
  (depE es dg dt = none → ∀ y H', Kp [] H H' → Q y H') ∧ ∀ r, depE es dg dt = some r → ErrTo Cs ex H E r
def spSrcX (Cs : Nat → Addr) : Sp := fun vs H Q E => ∃ (v x y g : V) (es : List Ent) (dr dc dg : PyData) (ex : List Addr), vs = [v, x, y, g] ∧ AskG ex H es dg v g ∧ Rp ex H dr x ∧ Rp ex H dc y ∧ niceD dc = true ∧
  (srcE es dg dr dc = none → ∀ y H', Kp [] H H' → Q y H') ∧ ∀ r, srcE es dg dr dc = some r → ErrTo Cs ex H E r
/-- what is no log -/
def spBadN (CL : Addr) (n : Nat) : Sp := fun vs H Q E => ∃ (v : V) (us : List V) (d : PyData) (ex : List Addr), vs = v :: us ∧ us.length = n ∧ Rp ex H d v ∧ niceD d = true ∧ logD' d = false ∧ ∀ H', Kp [] H H' → E (.ref CL) none H'
section
variable {P : Program} {w : World} {K : PySem.W.Frag} {mg : Str → Option Value} {base : Heap} {Cs : Nat → Addr}
theorem ok_depX (DDependencies : FnF K mg "dependencies" sDependencies) (DCheckLog : Fn K mg "check_log" sCheckLog ["log"]) (DCheckRetracted : Fn K mg "check_retracted" sCheckRetracted ["log", "retracted"]) (DCheckTarget : Fn K mg "check_target" sCheckTarget ["log", "target"]) (DTriplesOf : Fn K mg "triples_of" sTriplesOf ["live", "target"]) (DWithoutRetracted : Fn K mg "without_retracted" sWithoutRetracted ["log", "retracted"])
    (GCheckLog : FnOk P w K mg base CX0 7 DCheckLog.f DCheckLog.fd ["log"] spCheck) (XCheckRetracted : FnOk P w K mg base (L2.CX P w) 4 DCheckRetracted.f DCheckRetracted.fd ["log", "retracted"] (spRetrX Cs)) (XCheckTarget : FnOk P w K mg base (L2.CX P w) 5 DCheckTarget.f DCheckTarget.fd ["log", "target"] (spTargX Cs))
    (GTriplesOf : FnOk P w K mg base CX0 2 DTriplesOf.f DTriplesOf.fd ["live", "target"] spTriples) (GWithoutRetracted : FnOk P w K mg base CX0 1 DWithoutRetracted.f DWithoutRetracted.fd ["log", "retracted"] (spWithout K)) :
    FnOk P w K mg base (L2.CX P w) 8 DDependencies.f DDependencies.fd ["log", "target", "retracted"] (spDepX Cs) := by
  refine DDependencies.F.okX scDependencies (fun vs H Q E h => ?_) (fun cdv A outer s H vs Q E hr h => ?_)
  · obtain ⟨v, u, g, es, dt, dg, ex, rfl, _⟩ := h
    rfl
  obtain ⟨v, u, g, es, dt, dg, ex, rfl, ⟨rv, ok, h60, rg, ng, fg, lv⟩, rt, nt, yes, no⟩ := h
  refine ⟨_, pss_cons (ps_expr (pe_fn DCheckLog GCheckLog hr (pa_cons (pv 0) pa_nil)))
      (pss_cons (ps_expr (pe_fx DCheckRetracted XCheckRetracted hr (takes_of rfl rfl rfl rfl) (pa_cons (pv 0) (pa_cons (pv 2) pa_nil))))
      (pss_cons (ps_expr (pe_fx DCheckTarget XCheckTarget hr (takes_of rfl rfl rfl rfl) (pa_cons (pv 0) (pa_cons (pv 1) pa_nil))))
      (pss_one (ps_ret (pe_fn DTriplesOf GTriplesOf hr (pa_cons (pe_fn DWithoutRetracted GWithoutRetracted hr (pa_cons (pv 0) (pa_cons (pv 2) pa_nil))) (pa_cons (pv 1) pa_nil))))))), ?_⟩
  have up : ∀ {Hx : Hp} {d : PyData} {u : V}, Kp [] H Hx → Rp ex H d u → Rp ex Hx d u := fun k r => Rp.keep (k.mono (by simp)) _ _ r
  refine ⟨_, rfl, v, es, ex, rfl, rv, ok, h60, fun H1 k1 => ?_⟩
  refine ⟨_, rfl, _, rfl, v, g, es, dg, ex, rfl, up k1 rv, ok, by omega, up k1 rg, ng, fun hn H2 k2 => ?_, fun r hr => (no r (by unfold depE; rw [hr])).keep k1⟩
  have k12 := k1.trans k2
  have ed : depE es dg dt = goalE es dt := by unfold depE; rw [hn]
  refine ⟨_, rfl, _, rfl, v, u, es, dt, ex, rfl, up k12 rv, up k12 rt, nt, fun hg H3 k3 => ?_, fun r hr => (no r (ed.trans hr)).keep k12⟩
  have k13 := k12.trans k3
  obtain ⟨ga, b, rfl, nm, gok⟩ := gone_ok (K := K) ok.nd hn (up k13 rg)
  obtain ⟨t, z, c, k, rfl, ht, tk⟩ := goal_ok ok.ok hg (up k13 rt)
  refine ⟨_, rfl, _, rfl, v, ga, es, namesD dg, b, ex, rfl, up k13 rv, nm, by omega, fg, lv.kp0 k13, fun p H4 k4 r4 => ?_⟩
  have k14 := k13.trans k4
  obtain ⟨hp, htake⟩ := pos_live tk.pos (target_gone tk gok)
  refine ⟨_, rfl, .ref p, t, liveB es (namesD dg), ex, z, c, _, rfl, r4, k4 _ _ (by simp) ht, liveB_ok ok.ok, liveB_nd ok.nd, Nat.le_trans liveB_len (by omega), hp, lv.kp0 k14, fun p2 H5 k5 n5 r5 => ?_⟩
  rw [htake] at r5
  rw [show backL (liveB (es.take k) (namesD dg)) [(z, c, none)] = depRows es (namesD dg) z c k from rows_live (q := (z, c, k)) tk.pos.le] at r5
  refine yes (ed.trans hg) p2 H5 _ (k14.trans k5) r5 ?_
  unfold depRows
  rw [← rows_live (q := (z, c, k)) tk.pos.le]
  have := back_len (row := (z, c, none)) (l := liveB (es.take k) (namesD dg)) fun u hu => (ok.ok u (List.mem_of_mem_take (List.mem_filter.mp hu).1)).rs.2
  have h2 : (liveB (es.take k) (namesD dg)).length ≤ 60 := Nat.le_trans liveB_len (by rw [List.length_take]; omega)
  show (backL (liveB (es.take k) (namesD dg)) [(z, c, none)]).length ≤ 10000
  omega
theorem ok_setX (DDependencySet : FnF K mg "dependency_set" sDependencySet) (DDependencies : FnF K mg "dependencies" sDependencies) (DWritesIn : Fn K mg "writes_in" sWritesIn ["log", "triples"]) (BDep : KBn K DDependencies.fd ["log", "target", "retracted"] 2 ["retracted"] (· ++ ·) (· ++ ·))
    (XDependencies : FnOk P w K mg base (L2.CX P w) 8 DDependencies.f DDependencies.fd ["log", "target", "retracted"] (spDepX Cs)) (GWritesIn : FnOk P w K mg base CX0 1 DWritesIn.f DWritesIn.fd ["log", "triples"] spWritesIn) :
    FnOk P w K mg base (L2.CX P w) 9 DDependencySet.f DDependencySet.fd ["log", "target", "retracted"] (spSetX Cs) := by
  refine DDependencySet.F.okX scDependencySet (fun vs H Q E h => ?_) (fun cdv A outer s H vs Q E hr h => ?_)
  · obtain ⟨v, u, g, es, dt, dg, ex, rfl, _⟩ := h
    rfl
  obtain ⟨v, u, g, es, dt, dg, ex, rfl, ag, rt, nt, yes, no⟩ := h
  refine ⟨_, pss_one (ps_ret (pe_fn DWritesIn GWritesIn hr (pa_cons (pv 0) (pa_cons (pe_qx DDependencies BDep XDependencies hr (takes_of rfl rfl rfl rfl) (pa_cons (pv 0) (pa_cons (pv 1) pa_nil)) (pk_cons (pv 2) pk_nil)) pa_nil)))), ?_⟩
  refine ⟨_, rfl, _, rfl, _, rfl, _, rfl, rfl, rfl, v, u, g, es, dt, dg, ex, rfl, ag, rt, nt, fun hn p H1 rows k1 r1 hl => ?_, no⟩
  have h60 := ag.h60
  exact ⟨v, .ref p, es, rows, ex, rfl, Rp.keep (k1.mono (by simp)) _ _ ag.log, r1, by omega, hl, ag.live.kp0 k1, fun p2 H2 k2 n2 e2 => yes hn (.ref p2) H2 (k1.trans k2)⟩
theorem ok_srcX (DSourceOf : FnF K mg "source_of" sSourceOf) (DCheckLog : Fn K mg "check_log" sCheckLog ["log"]) (DCheckRetracted : Fn K mg "check_retracted" sCheckRetracted ["log", "retracted"]) (DCheckReads : Fn K mg "check_reads" sCheckReads ["log", "position", "cell"]) (DPositionIn : Fn K mg "position_in" sPositionIn ["log", "entry_id"]) (DSourceBefore : Fn K mg "source_before" sSourceBefore ["live", "position", "cell"]) (DWithoutRetracted : Fn K mg "without_retracted" sWithoutRetracted ["log", "retracted"])
    (c0 : Addr) (e0 : c0 = Cs 0) (GCheckLog : FnOk P w K mg base CX0 7 DCheckLog.f DCheckLog.fd ["log"] spCheck) (XCheckRetracted : FnOk P w K mg base (L2.CX P w) 4 DCheckRetracted.f DCheckRetracted.fd ["log", "retracted"] (spRetrX Cs)) (XCheckReads : FnOk P w K mg base (L2.CX P w) 4 DCheckReads.f DCheckReads.fd ["log", "position", "cell"] (spReadsX Cs)) (XPositionIn : FnOk P w K mg base (L2.CX P w) 3 DPositionIn.f DPositionIn.fd ["log", "entry_id"] (spPosX c0))
    (GSourceBefore : FnOk P w K mg base CX0 2 DSourceBefore.f DSourceBefore.fd ["live", "position", "cell"] spSource) (GWithoutRetracted : FnOk P w K mg base CX0 1 DWithoutRetracted.f DWithoutRetracted.fd ["log", "retracted"] (spWithout K)) :
    FnOk P w K mg base (L2.CX P w) 8 DSourceOf.f DSourceOf.fd ["log", "reader", "cell", "retracted"] (spSrcX Cs) := by
  refine DSourceOf.F.okX scSourceOf (fun vs H Q E h => ?_) (fun cdv A outer s H vs Q E hr h => ?_)
  · obtain ⟨v, x, y, g, es, dr, dc, dg, ex, rfl, _⟩ := h
    rfl
  obtain ⟨v, x, y, g, es, dr, dc, dg, ex, rfl, ⟨rv, ok, h60, rg, ng, fg, lv⟩, rr, rc, nc, yes, no⟩ := h
  refine ⟨_, pss_cons (ps_expr (pe_fn DCheckLog GCheckLog hr (pa_cons (pv 0) pa_nil)))
      (pss_cons (ps_expr (pe_fx DCheckRetracted XCheckRetracted hr (takes_of rfl rfl rfl rfl) (pa_cons (pv 0) (pa_cons (pv 3) pa_nil))))
      (pss_cons (ps_set (i := 4) scSourceOf.nd rfl (.inl rfl) (pe_fn DWithoutRetracted GWithoutRetracted hr (pa_cons (pv 0) (pa_cons (pv 3) pa_nil))))
      (pss_cons (ps_set (i := 5) scSourceOf.nd rfl (.inl rfl) (pe_fx DPositionIn XPositionIn hr (takes_of rfl rfl rfl rfl) (pa_cons (pv 4) (pa_cons (pv 1) pa_nil))))
      (pss_cons (ps_expr (pe_fx DCheckReads XCheckReads hr (takes_of rfl rfl rfl rfl) (pa_cons (pv 4) (pa_cons (pv 5) (pa_cons (pv 2) pa_nil)))))
      (pss_one (ps_ret (pe_fn DSourceBefore GSourceBefore hr (pa_cons (pv 4) (pa_cons (pv 5) (pa_cons (pv 2) pa_nil)))))))))), ?_⟩
  have up : ∀ {Hx : Hp} {d : PyData} {u : V}, Kp [] H Hx → Rp ex H d u → Rp ex Hx d u := fun k r => Rp.keep (k.mono (by simp)) _ _ r
  refine ⟨_, rfl, v, es, ex, rfl, rv, ok, h60, fun H1 k1 => ?_⟩
  refine ⟨_, rfl, _, rfl, v, g, es, dg, ex, rfl, up k1 rv, ok, by omega, up k1 rg, ng, fun hn H2 k2 => ?_, fun r hr => (no r (by unfold srcE; rw [hr])).keep k1⟩
  have k12 := k1.trans k2
  obtain ⟨ga, b, rfl, nm, gok⟩ := gone_ok (K := K) ok.nd hn (up k12 rg)
  refine ⟨_, rfl, _, rfl, v, ga, es, namesD dg, b, ex, rfl, up k12 rv, nm, by omega, fg, lv.kp0 k12, fun p H3 k3 r3 => ?_⟩
  have k13 := k12.trans k3
  refine ⟨_, rfl, _, rfl, .ref p, x, liveB es (namesD dg), dr, ex, rfl, r3, up k13 rr, fun k hk H4 k4 => ?_, fun hno dd H' k' h' => ?_⟩
  · have k14 := k13.trans k4
    have r4 := Rp.keep (k4.mono (ex' := ex) (by simp)) _ _ r3
    have es4 : srcE es dg dr dc = readE (liveB es (namesD dg)) k dc := by unfold srcE; rw [hn]; dsimp only; rw [hk]
    refine ⟨_, rfl, _, rfl, _, rfl, .ref p, y, liveB es (namesD dg), dc, ex, k, rfl, r4, up k14 rc, nc, posD_le hk, fun hr => ?_, fun r hr => (no r (es4.trans hr)).keep k14⟩
    obtain ⟨c, rfl, hc, hrd⟩ := readE_ok (liveB_ok ok.ok) hr
    obtain rfl : y = .str c := rc
    exact ⟨_, rfl, _, rfl, _, rfl, .ref p, liveB es (namesD dg), ex, k, c, rfl, r4, posD_le hk, Nat.le_trans liveB_len (by omega), lv.kp0 k14, fun H5 k5 => yes (es4.trans hr) _ H5 (k14.trans k5)⟩
  · rw [e0]
    exact no (0, dr) (by unfold srcE; rw [hn]; dsimp only; rw [hno]) dd x H' (k13.trans k') h' (up (k13.trans k') rr)
/-! what is no log -/
theorem ok_depBad (DDependencies : FnF K mg "dependencies" sDependencies) (DCheckLog : Fn K mg "check_log" sCheckLog ["log"]) {CL : Addr} (XCheckLog : FnOk P w K mg base (L2.CX P w) 7 DCheckLog.f DCheckLog.fd ["log"] (spMay logD' CL)) :
    FnOk P w K mg base (L2.CX P w) 8 DDependencies.f DDependencies.fd ["log", "target", "retracted"] (spBadN CL 2) := by
  refine DDependencies.F.okX scDependencies (fun vs H Q E h => ?_) (fun cdv A outer s H vs Q E hr h => ?_)
  · obtain ⟨v, us, d, ex, rfl, hn, _⟩ := h
    show us.length + 1 = 3
    omega
  obtain ⟨v, us, d, ex, rfl, hn, rv, nd, bad, e⟩ := h
  match us, hn with
  | [u1, u2], _ =>
  refine ⟨_, pss_cons (ps_expr (pe_fx DCheckLog XCheckLog hr (takes_of rfl rfl rfl rfl) (pa_cons (pv 0) pa_nil))) (pss_dead _), ?_⟩
  exact ⟨_, rfl, v, d, ex, rfl, rv, nd, (fun h => by rw [bad] at h; cases h), fun _ H' k => e H' k⟩
theorem ok_setBad (DDependencySet : FnF K mg "dependency_set" sDependencySet) (DDependencies : FnF K mg "dependencies" sDependencies) (DWritesIn : Fn K mg "writes_in" sWritesIn ["log", "triples"]) (BDep : KBn K DDependencies.fd ["log", "target", "retracted"] 2 ["retracted"] (· ++ ·) (· ++ ·)) {CL : Addr}
    (XDependencies : FnOk P w K mg base (L2.CX P w) 8 DDependencies.f DDependencies.fd ["log", "target", "retracted"] (spBadN CL 2)) (GWritesIn : FnOk P w K mg base CX0 1 DWritesIn.f DWritesIn.fd ["log", "triples"] spWritesIn) :
    FnOk P w K mg base (L2.CX P w) 9 DDependencySet.f DDependencySet.fd ["log", "target", "retracted"] (spBadN CL 2) := by
  refine DDependencySet.F.okX scDependencySet (fun vs H Q E h => ?_) (fun cdv A outer s H vs Q E hr h => ?_)
  · obtain ⟨v, us, d, ex, rfl, hn, _⟩ := h
    show us.length + 1 = 3
    omega
  obtain ⟨v, us, d, ex, rfl, hn, rv, nd, bad, e⟩ := h
  match us, hn with
  | [u1, u2], _ =>
  refine ⟨_, pss_one (ps_ret (pe_fn DWritesIn GWritesIn hr (pa_cons (pv 0) (pa_cons (pe_qx DDependencies BDep XDependencies hr (takes_of rfl rfl rfl rfl) (pa_cons (pv 0) (pa_cons (pv 1) pa_nil)) (pk_cons (pv 2) pk_nil)) pa_nil)))), ?_⟩
  exact ⟨_, rfl, _, rfl, _, rfl, _, rfl, rfl, rfl, v, [u1, u2], d, ex, rfl, rfl, rv, nd, bad, e⟩
theorem ok_srcBad (DSourceOf : FnF K mg "source_of" sSourceOf) (DCheckLog : Fn K mg "check_log" sCheckLog ["log"]) {CL : Addr} (XCheckLog : FnOk P w K mg base (L2.CX P w) 7 DCheckLog.f DCheckLog.fd ["log"] (spMay logD' CL)) :
    FnOk P w K mg base (L2.CX P w) 8 DSourceOf.f DSourceOf.fd ["log", "reader", "cell", "retracted"] (spBadN CL 3) := by
  refine DSourceOf.F.okX scSourceOf (fun vs H Q E h => ?_) (fun cdv A outer s H vs Q E hr h => ?_)
  · obtain ⟨v, us, d, ex, rfl, hn, _⟩ := h
    show us.length + 1 = 4
    omega
  obtain ⟨v, us, d, ex, rfl, hn, rv, nd, bad, e⟩ := h
  match us, hn with
  | [u1, u2, u3], _ =>
  refine ⟨_, pss_cons (ps_expr (pe_fx DCheckLog XCheckLog hr (takes_of rfl rfl rfl rfl) (pa_cons (pv 0) pa_nil))) (pss_dead _), ?_⟩
  exact ⟨_, rfl, v, d, ex, rfl, rv, nd, (fun h => by rw [bad] at h; cases h), fun _ H' k => e H' k⟩
end
end NV
/-! LcE -/
set_option Elab.async false
set_option linter.all false
set_option maxRecDepth 100000
set_option maxHeartbeats 1000000
/-! comprehensions over entries: some of them, something of each -/
namespace NV
open PySem PySem.Spec PyProof.Rows L2
/-- what a walk over xs is -/
structure Walks (J : It) (xs : List V) (C : Addr) (H1 : Hp) : Prop where
  go : ∀ k H, k < xs.length → Kp [C] H1 H → J.go k H
  stop : ∀ H, Kp [C] H1 H → J.stop xs.length H
  yld : ∀ k H x H', Kp [C] H1 H → J.yld k H x H' → H' = H ∧ xs[k]? = some x
theorem walks_tup {K : PySem.W.Frag} {a C : Addr} {xs : List V} {H1 : Hp} (h : H1 a = some (.tup xs)) (nC : H1 C = none) : Walks (Itt K a) xs C H1 := by
  have ne : a ∉ [C] := fun z => by rw [List.mem_singleton.mp z, nC] at h; cases h
  have s : ∀ {H : Hp}, Kp [C] H1 H → SqT K H a xs := fun k => .inl (.inl (k _ _ ne h))
  exact ⟨fun k H hk kp => ⟨_, _, s kp, List.getElem?_eq_getElem hk⟩, fun H kp => ⟨_, s kp, Nat.le_refl _⟩, fun k H x H' kp y => ⟨y.1, y.2 _ (s kp)⟩⟩
theorem walks_lst {K : PySem.W.Frag} {a C : Addr} {xs : List V} {H1 : Hp} (h : H1 a = some (.lst xs)) (nC : H1 C = none) : Walks (Itl K a) xs C H1 := by
  have ne : a ∉ [C] := fun z => by rw [List.mem_singleton.mp z, nC] at h; cases h
  have s : ∀ {H : Hp}, Kp [C] H1 H → SqL K H a xs := fun k => .inl (.inl (k _ _ ne h))
  exact ⟨fun k H hk kp => ⟨_, _, s kp, List.getElem?_eq_getElem hk⟩, fun H kp => ⟨_, s kp, Nat.le_refl _⟩, fun k H x H' kp y => ⟨y.1, y.2 _ (s kp)⟩⟩
theorem lc_ents {J : It} {tt : TT} {te : TE} {i : Nat} {σ : L2.St} {C : Addr} {H1 : Hp} {Qd : Hp → Prop} {xs : List V} {gs : List Ent} {ex : List Addr} (f : Ent → PyData) (p : Ent → Bool) (wk : Walks J xs C H1) (nC : H1 C = none) (hx : RpAll ex H1 (gs.map Ent.data) xs) (hz : xs.length < 1000)
    (htt : ∀ (e : Ent) (x : V) (H : Hp) (Q : Bool → Hp → Prop), e ∈ gs → Kp [C] H1 H → Rp (C :: ex) H e.data x → (∀ H', Kp [] H H' → Q (p e) H') → tt ((wipe σ [i]).set i (some x)) H Q)
    (hte : ∀ (e : Ent) (x : V) (H : Hp) (Q : V → Hp → Prop), e ∈ gs → p e = true → Kp [C] H1 H → Rp (C :: ex) H e.data x → (∀ v H', Kp [] H H' → Rp (C :: ex) H' (f e) v → Q v H') → te ((wipe σ [i]).set i (some x)) H Q)
    (hd : ∀ H' ys, Kp [C] H1 H' → H' C = some (.lst ys) → RpAll (C :: ex) H' ((gs.filter p).map f) ys → Qd H') (hw : ∀ x : V, wipe ((wipe σ [i]).set i (some x)) [i] = wipe σ [i]) :
    ∃ W : Nat → Nat → Hp → Prop, (∃ m, W 0 m (upd H1 C (.lst []))) ∧ ∀ i' m H, W i' m H →
      (J.stop i' H ∧ Qd H) ∨ (J.go i' H ∧ ∃ Nx : Hp → Prop, (∀ H', Nx H' → ∃ m', m' < m ∧ W (i' + 1) m' H') ∧ ∀ x H', J.yld i' H x H' → gName i x (wipe σ [i]) H' fun σ2 H2 => wipe σ2 [i] = wipe σ [i] ∧ tt σ2 H2 fun b H3 =>
        if b = true then te σ2 H3 fun y H4 => ∃ acc, H4 C = some (.lst acc) ∧ acc.length < sizeLine ∧ Nx (upd H4 C (.lst (acc ++ [y]))) else Nx H3) := by
  have hl : gs.length = xs.length := by
    have := hx.length
    rwa [List.length_map] at this
  have line : (100000 : Nat) < sizeLine := by decide
  have hxC : RpAll (C :: ex) (upd H1 C (.lst [])) (gs.map Ent.data) xs := RpAll.keep (Kp.laid nC) _ _ (RpAll.apart nC _ _ hx)
  refine lc_inv xs.length (fun j H => Kp [C] H1 H ∧ ∃ ys, H C = some (.lst ys) ∧ ys.length ≤ j ∧ RpAll (C :: ex) H (((gs.take j).filter p).map f) ys) ⟨Kp.laid nC, [], upd_same, Nat.zero_le _, rfl⟩ ?_ (fun j H hj ⟨k, _⟩ => wk.go j H hj k) ?_
  · rintro H ⟨k, ys, hC, hlen, hy⟩
    rw [← hl, List.take_length] at hy
    exact ⟨wk.stop H k, hd H ys k hC hy⟩
  · rintro j H x H' hj ⟨k, ys, hC, hlen, hy⟩ y
    obtain ⟨rfl, hxj⟩ := wk.yld j H x H' k y
    obtain ⟨e, he⟩ : ∃ e, gs[j]? = some e := ⟨_, List.getElem?_eq_getElem (by omega)⟩
    have hm : e ∈ gs := List.mem_of_getElem? he
    obtain ⟨x', hx', rx⟩ := RpAll.at hxC (show (gs.map Ent.data)[j]? = some e.data by rw [List.getElem?_map, he]; rfl)
    rw [hxj] at hx'
    obtain rfl := Option.some.inj hx'
    have rx2 : Rp (C :: ex) H' e.data x := by
      refine Rp.keep (fun b o hb ho => ?_) _ _ rx
      have hbC : b ≠ C := fun z => hb (by rw [z]; simp)
      rw [upd_ne hbC] at ho
      exact k b o (by simpa using hbC) ho
    have tk : ∀ b, p e = b → ((gs.take (j + 1)).filter p).map f = ((gs.take j).filter p).map f ++ (if b then [f e] else []) := fun b hb => by
      rw [List.take_add_one, he, List.filter_append, List.map_append]
      cases b <;> simp [List.filter, hb]
    refine ⟨hw x, htt e x H' _ hm k rx2 fun H2 k2 => ?_⟩
    have kC2 : Kp [C] H1 H2 := k.trans (k2.mono (by simp))
    have hC2 := k2 _ _ (by simp) hC
    have rx3 := Rp.keep (k2.mono (ex' := C :: ex) (by simp)) _ _ rx2
    have hy2 := RpAll.keep (k2.mono (ex' := C :: ex) (by simp)) _ _ hy
    cases hp : p e with
    | true =>
      rw [if_pos rfl]
      refine hte e x H2 _ hm hp kC2 rx3 fun v H3 k3 rv => ?_
      refine ⟨ys, k3 _ _ (by simp) hC2, by omega, kC2.trans ((k3.mono (by simp)).trans (Kp.put (by simp))), ys ++ [v], upd_same, by rw [List.length_append]; simp; omega, ?_⟩
      rw [tk true hp]
      exact RpAll.app (RpAll.keep ((k3.mono (by simp)).trans (Kp.put (by simp))) _ _ hy2) (RpAll.one (Rp.keep (Kp.put (by simp)) _ _ rv))
    | false =>
      rw [if_neg (by simp)]
      refine ⟨kC2, ys, hC2, by omega, ?_⟩
      rw [tk false hp]
      simpa using hy2
theorem kpn {H H' : Hp} {p : Addr} (k : Kp [] H H') (h : H' p = none) : H p = none := by
  cases e : H p with
  | none => rfl
  | some o => rw [k _ _ (by simp) e] at h; cases h
theorem wipe_one (σ : L2.St) (i : Nat) (x : V) : wipe ((wipe σ [i]).set i (some x)) [i] = wipe σ [i] := by
  show ((((σ.set i none).set i (some x)).set i none) : L2.St) = σ.set i none
  rw [List.set_set, List.set_set]
end NV
/-! Lam -/
set_option Elab.async false
set_option linter.all false
set_option maxRecDepth 100000
set_option maxHeartbeats 1000000
/-! a lambda handed to _law_result, in a def of the top whose table of code objects is tracked -/
namespace NV
open PySem PySem.Spec PyProof.Rows L2
/-- the code object of a def of the top -/
structure CodeOf (K : PySem.W.Frag) (nm : Str) (st : Stmt) (f : Addr) (fd : FuncData) (c : Addr) : Prop where
  ex : ∃ (oc : Value) (od : Option Addr) (kV doc pm : Value) (an : Option Addr) (ct : Value) (osl : Array (Option Value)),
    fd = PySem.W.fnOf nm nm (defArgs st) (defBody st) (defScope st) .none kV doc pm an (.ref c) ct ∧ K.lookup f = some ⟨oc, od, .func fd, osl⟩ ∧ PySem.W.codeIn K (.ref c) nm = true
def AtC (K : PySem.W.Frag) (nm : Str) (st : Stmt) (c : Addr) : Prop := ∃ (f : Addr) (oc : Value) (od : Option Addr) (kV doc pm : Value) (an : Option Addr) (ct : Value) (sl : Array (Option Value)),
  PySem.W.nsIn K mainGlobals nm = some (some (.ref f)) ∧ K.lookup f = some ⟨oc, od, .func (PySem.W.fnOf nm nm (defArgs st) (defBody st) (defScope st) .none kV doc pm an (.ref c) ct), sl⟩ ∧ PySem.W.codeIn K (.ref c) nm = true ∧ PySem.W.keepIn K (.ref f) = true
section
variable {K : PySem.W.Frag} {h : Heap} {mg : Str → Option Value} {nm : Str} {st : Stmt} {c : Addr}
theorem atC_mk {f : Addr} {oc : Value} {od : Option Addr} {kV doc pm : Value} {an : Option Addr} {ct : Value} {sl : Array (Option Value)} (a : PySem.W.nsIn K mainGlobals nm = some (some (.ref f))) (l : K.lookup f = some ⟨oc, od, .func (PySem.W.fnOf nm nm (defArgs st) (defBody st) (defScope st) .none kV doc pm an (.ref c) ct), sl⟩)
    (d : PySem.W.codeIn K (.ref c) nm = true) (k : PySem.W.keepIn K (.ref f) = true) : AtC K nm st c := ⟨f, oc, od, kV, doc, pm, an, ct, sl, a, l, d, k⟩
theorem fnc_at {ps : List Str} (X : K.In h) (G : h.Ns mainGlobals mg) (a : AtC K nm st c)
    (hb : ∀ (kV doc pm : Value) (an : Option Addr) (cdv ct : Value) (us : List Value), us.length = ps.length → bindArgs (PySem.W.fnOf nm nm (defArgs st) (defBody st) (defScope st) .none kV doc pm an cdv ct) ⟨us, []⟩ = pure (ps.zip us)) : ∃ D : Fn K mg nm st ps, CodeOf K nm st D.f D.fd c := by
  obtain ⟨f, oc, od, kV, doc, pm, an, ct, sl, a1, l1, c1, k1⟩ := a
  have F := fun_mk (st := st) l1 c1 k1
  exact ⟨⟨f, _, F, PySem.W.mg_of X G a1, F.binds hb⟩, ⟨oc, od, kV, doc, pm, an, ct, sl, rfl, l1, c1⟩⟩
end
section
variable {P : Program} {w : World} {K : PySem.W.Frag} {mg : Str → Option Value} {base : Heap}
/-- okG, with the def's own code object -/
theorem okGC {x : Str} {st : Stmt} {f c : Addr} {fd : FuncData} {N ps : List Str} {k : Nat} {sp : Sp} (F : CodeOf K x st f fd c) (S : FnScope N ps (defScope st)) (len : ∀ vs H Q E, sp vs H Q E → vs.length = ps.length)
    (body : ∀ (A : Around) (outer : List Env) (s : Shared) (H : Hp) (vs : List V) (Q : VK) (E : XK), (A.deeper (envOfC x (defScope st) s.heap.objs.size f (.ref c))).guards = some [] → Room k (A.deeper (envOfC x (defScope st) s.heap.objs.size f (.ref c))) → sp vs H Q E →
      ∃ t, PSs (cxOf CX0 P w K mg base N x (defScope st) f (.ref c) A outer s H E).nox (defBody st) t ∧ t { nx := fun _ H' => Q .non H', rt := Q } (start N vs) H) : FnOkG P w K mg base CX0 (k + 1) f fd ps sp := by
  obtain ⟨oc, od, kV, doc, pm, an, ct, osl, rfl, lk, hcd⟩ := F.ex
  refine ⟨len, fun {A outer s H args us vs Q E} hg hr e0 hb rel hsp => ?_⟩
  have hl := len _ _ _ _ hsp
  have KX : K.In s.heap := e0.mod.kin.keeps fun b o e => (e0.bs b o e).1
  have lim : s.heap.NoLimit := e0.mod.nolimit.keeps fun b o e => (e0.bs b o e).1
  have named : ∀ y ∈ ps.zip us, (defScope st).names.lookup y.1 = some .local ∨ ((defScope st).names.lookup y.1 = some .cell ∧ ((cellsFrom (s.heap.objs.size + 1) (defScope st).names []).lookup y.1).isSome = true) := fun ⟨n, v⟩ hy =>
    (S.par n (List.of_mem_zip hy).1).elim .inl fun q => .inr ⟨q, PySem.W.cellsFrom_some _ _ _ (.inl q)⟩
  refine codeAny_call_function hr.depth (KX _ _ lk) rfl S.co S.gen rfl (PySem.W.codeRec_of KX hcd) (hb _ _ _ _ (wpAny_newFunctionEnv_cells S.kind named fun env he s1 x => ?_))
  subst he
  obtain ⟨t, ht, hq⟩ := body A outer s H vs Q E hg (hr.deeper _) hsp
  refine ⟨lim.keeps x.toInCall.keep, codeAny_func (wpAny_mono (ht.nox.run [] s1 (start N vs) H _ (inv_start S hr.hd e0 hl rel x) hq) (fun fl s' hs => ?_) fun e s' hs => hs)⟩
  match fl, hs with
  | .ret u, ⟨v, σ', H', J, rv, q⟩ => exact ⟨v, H', J.os, J.bare, J.base, J.hok, rv, q⟩
  | .next, ⟨σ', H', J, q⟩ => exact ⟨.non, H', J.os, J.bare, J.base, J.hok, rfl, q⟩
  | .brk, ⟨_, _, _, q⟩ => exact q.elim
  | .cont, ⟨_, _, _, q⟩ => exact q.elim
end
/-- the name of the code objects of the lambdas of the def nm -/
def lamQ (nm : Str) : Str := (nm ++ ".<locals>.") ++ "<lambda>"
/-- the table of nm's code objects, at P -/
def TabL (P : Addr) (nm : Str) (H : Hp) : Prop := LamX.TabS H P (lamQ nm)
theorem TabL.keep {P : Addr} {nm : Str} {H H' : Hp} (t : TabL P nm H) (k : Kp [] H H') : TabL P nm H' := t.ext fun b o e => k b o (by simp) e
theorem TabL.dr {P : Addr} {nm : Str} {D : Dr} {n : Nat} {H H' : Hp} (t : TabL P nm H) (d : DrAt D n H) (k : Kp D.ex H H') : TabL P nm H' := by
  obtain ⟨_, large, items, left, turn, h1, h2, _⟩ := d
  have no : ∀ b o, H b = some o → (∀ kv, o ≠ .dK kv) → (∀ xs, o ≠ .lst xs) → b ∉ D.ex := fun b o e n1 n2 z => by
    rcases List.mem_cons.mp z with z | z
    · rw [z, h1] at e; cases e; exact n1 _ rfl
    · rw [List.mem_singleton.mp z, h2] at e; cases e; exact n2 _ rfl
  obtain ⟨ps, t1, t2, t3⟩ := t
  refine ⟨ps, k _ _ (no _ _ t1 (fun _ z => by cases z) fun _ z => by cases z) t1, t2, fun pos cv e => ?_⟩
  obtain ⟨c, e1, e2⟩ := t3 pos cv e
  exact ⟨c, e1, k _ _ (no _ _ e2 (fun _ z => by unfold LamX.CodeO at z; cases z) fun _ z => by unfold LamX.CodeO at z; cases z) e2⟩
/-! ### what stays where a table grows -/
mutual
theorem Rp.extN {ex : List Addr} {H H' : Hp} (k : LamX.ExtN H H') : ∀ (d : PyData) (v : V), Rp ex H d v → Rp ex H' d v
  | .none, _, h => h
  | .bool _, _, h => h
  | .int _, _, h => h
  | .str _, _, h => h
  | .list ds, v, h => by
    obtain ⟨a, xs, e, na, h1, h2⟩ := h
    exact ⟨a, xs, e, na, k a _ h1 (fun _ z => by cases z), RpAll.extN k ds xs h2⟩
  | .tuple ds, v, h => by
    obtain ⟨a, xs, e, na, h1, h2⟩ := h
    exact ⟨a, xs, e, na, k a _ h1 (fun _ z => by cases z), RpAll.extN k ds xs h2⟩
  | .dict kvs, v, h => by
    obtain ⟨z, a, e, na, h1⟩ := h
    exact ⟨z, a, e, na, k a _ h1 (fun _ z => by cases z)⟩
theorem RpAll.extN {ex : List Addr} {H H' : Hp} (k : LamX.ExtN H H') : ∀ (ds : List PyData) (vs : List V), RpAll ex H ds vs → RpAll ex H' ds vs
  | [], _, h => h
  | d :: ds, vs, h => by
    obtain ⟨v, ws, e, h1, h2⟩ := h
    exact ⟨v, ws, e, Rp.extN k d v h1, RpAll.extN k ds ws h2⟩
end
theorem DrAt.extN {D : Dr} {n : Nat} {H H' : Hp} (h : DrAt D n H) (k : LamX.ExtN H H') : DrAt D n H' := by
  obtain ⟨h0, large, items, left, turn, h1, h2, h3, h4⟩ := h
  exact ⟨h0, large, items, left, turn, k _ _ h1 (fun _ z => by cases z), k _ _ h2 (fun _ z => by cases z), k _ _ h3 (fun _ z => by cases z), h4⟩
theorem seqL_extN {K : PySem.W.Frag} {a : Addr} {xs : List V} {H H' : Hp} (k : LamX.ExtN H H') (h : SqL K H a xs) : SqL K H' a xs := by
  rcases h with (h | ⟨o, h⟩) | h
  · exact .inl (.inl (k _ _ h (fun _ z => by cases z)))
  · exact .inl (.inr ⟨o, k _ _ h (fun _ z => by cases z)⟩)
  · exact .inr h
section
variable {X : Cx}
/-- what a lambda handed to _law_result is told -/
def tLamR (K : PySem.W.Frag) (A : ErrAt) (P : Addr) (nm : Str) (t : XK → TE) : TE := fun σ H Q => TabL P nm H ∧ ∀ H1, LamX.ExtN H H1 → TabL P nm H1 → t (resE K A Q) σ H1 fun v H' => ∀ p H2, Kp [] H' H2 → H2 p = some (.tup [.str "value", v]) → Q (.ref p) H2
theorem pe_lamres {A : ErrAt} {nm : Str} {c P : Addr} {k : Nat} {params : Arguments} {body : Expr} {scope : Scope} {t : XK → TE} {p lpos pos : Pos} (D : Fn X.K X.mg "_law_result" sLawResult ["work"]) (T : ErrTop X.mg A) (b_isinstance : X.mg "isinstance" = none) (b_ValueError : X.mg "ValueError" = none)
    (f0 : ErrFld X.K A 0 "entry_id") (f1 : ErrFld X.K A 1 "cell") (f2 : ErrFld X.K A 2 "entry_id") (f3 : ErrFld X.K A 3 "entry_id") (TB : LamX.TabB X.base X.mg c P) (hr : Room (k + 2) X.A)
    (hbody : ∀ (A' : Around) (outer : List Env) (s : Shared) (H : Hp) (E : XK) (f c' : Addr), Room k (A'.deeper (LamX.lamEnv X scope s.heap.objs.size f c')) → PE (LamX.lamCx X A' outer s H E scope f c') body (t E))
    (hcode : X.env.code = .ref c := by rfl) (hq : X.env.qual ++ "<lambda>" = lamQ nm := by rfl) (L : LamX.lamSB X.env.scope scope = true := by rfl) (hdef : defaultsOf params X.env = ([], []) := by rfl)
    (hbind : ∀ (q : Str) (cl : List (Str × Addr)) (pm cv ctv : Value), bindArgs (PySem.W.kla_fn "<lambda>" q params body scope cl pm cv ctv) ⟨[], []⟩ = pure [] := by exact fun _ _ _ _ _ => rfl) (hg : Gl X "_law_result" := by rfl) :
    PE X (.Call (.Name "_law_result" p) [.Lambda params body scope lpos] [] pos) (tLamR X.K A P nm t) := by
  obtain ⟨g, fd, F, m, b⟩ := D
  obtain ⟨oc, od, kV, doc, pm, an, cdv, ct, osl, rfl, lk, hcd⟩ := F.ex
  have G := result_gives (X := X) (g := g) (cdg := cdv) (q := lamQ nm) T b_isinstance b_ValueError f0 f1 f2 f3
  have R := LamX.pe_lamcall (T := [(P, X.env.qual ++ "<lambda>")]) (x := "_law_result") (a := "work") (Ng := ["work", "e", "marks", "error", "result"]) (TT := TRes X.K A) (t := t) (p := p) (lpos := lpos) (pos := pos) (k := k) hg m F.kp lk hcd b scLawResult rfl (.inl rfl) (by rw [hq]; exact G) TB hcode (by simp) (fun p hp _ => by rw [List.mem_singleton.mp hp]) hr (LamX.lamS_by L) hdef hbind hbody
  refine ⟨fun pins s σ H Q I h => R.run pins s σ H Q I ?_⟩
  obtain ⟨h1, h2⟩ := h
  refine ⟨fun p hp => by rw [List.mem_singleton.mp hp, hq]; exact h1, fun H1 e t1 => ?_⟩
  have t2 := t1 _ List.mem_cons_self
  rw [hq] at t2
  have t3 : TabL P nm H1 := t2
  exact fun H0 k0 => h2 H0 (e.trans (LamX.ExtN.of fun b o z => k0 b o (by simp) z)) (t3.keep k0)
end
end NV
/-! ErrB -/
set_option Elab.async false
set_option linter.all false
set_option maxRecDepth 100000
set_option maxHeartbeats 600000
/-! what is known of the classes of errors, as one question to the written part -/
namespace NV
open PySem PySem.Spec PyProof.Rows L2
def excCB (K : PySem.W.Frag) (D : Addr) : Bool := decide (PySem.W.findIn K (.ref D) "__getattribute__" = some (some (.builtin "BaseException.__getattribute__"))) && (decide (PySem.W.findIn K (.ref D) "__getattr__" = some none) && (decide (PySem.W.subIn K (.ref D) (.type "BaseException") = some true) && (PySem.W.hasDictIn K D &&
  (decide (PySem.W.findIn K (.ref D) "__class__" = some (some (.builtin "object.__class__"))) && (decide (PySem.W.specialIn K (.builtin "object.__class__") "__get__" = some (some (.builtin "getset_descriptor.__get__"))) && (decide (PySem.W.takesIn K (.builtin "object.__class__") = some true) && decide (PySem.W.mroIn K D (.type "object") = some true)))))))
theorem excC_of {K : PySem.W.Frag} {D : Addr} (h : excCB K D = true) : L2.ExcC K D := by
  unfold excCB at h
  simp only [Bool.and_eq_true, decide_eq_true_eq] at h
  obtain ⟨h1, h2, h3, h4, h5, h6, h7, h8⟩ := h
  exact ⟨h1, h2, h3, h4, h5, h6, h7, h8⟩
def errClsB (K : PySem.W.Frag) (A : ErrAt) (i : Nat) : Bool := excCB K (A.no i) && (decide (PySem.W.exmOne K (.ref (A.no i)) (.ref A.top) = some true) && ((List.range 7).all (fun j => decide (PySem.W.kitOne K (.ref (A.no i)) (.ref (A.no j)) = some (decide (i = j)))) && decide (PySem.W.kitOne K (.ref (A.no i)) (.type "ValueError") = some true)))
theorem errCls_of {K : PySem.W.Frag} {A : ErrAt} {i : Nat} (h : errClsB K A i = true) : ErrCls K A i := by
  unfold errClsB at h
  simp only [Bool.and_eq_true, decide_eq_true_eq, List.all_eq_true, List.mem_range] at h
  obtain ⟨h1, h2, h3, h4⟩ := h
  exact ⟨excC_of h1, h2, h3, h4⟩
def errFldB (K : PySem.W.Frag) (A : ErrAt) (i : Nat) (f : Str) : Bool := L2.xfB K (A.no i) && decide (PySem.W.findIn K (.ref (A.no i)) f = some none)
theorem errFld_of {K : PySem.W.Frag} {A : ErrAt} {i : Nat} {f : Str} (h : errFldB K A i f = true) : ErrFld K A i f := by
  unfold errFldB at h
  simp only [Bool.and_eq_true, decide_eq_true_eq] at h
  exact ⟨xfB_ok h.1, h.2⟩
def errB (K : PySem.W.Frag) (C : Addr) : Bool := PySem.W.excIn K C [.type "ValueError", .type "Exception", .type "BaseException", .type "object"] "ValueError.__new__" && (PySem.W.keepIn K (.ref C) && (decide (PySem.W.subIn K (.ref C) (.type "BaseException") = some true) && decide (PySem.W.typeIn K (.ref C) = some (.type "type"))))
theorem err_of {K : PySem.W.Frag} {mg : Str → Option Value} {nm : Str} {C : Addr} (g : mg nm = some (.ref C)) (h : errB K C = true) : ∃ D : Err K mg nm, D.C = C := by
  unfold errB at h
  simp only [Bool.and_eq_true, decide_eq_true_eq] at h
  exact ⟨⟨C, g, h.1, h.2.1, h.2.2.1, h.2.2.2⟩, rfl⟩
/-- all of it -/
def errAllB (K : PySem.W.Frag) (A : ErrAt) : Bool := (List.range 7).all (errClsB K A) && (errFldB K A 0 "entry_id" && (errFldB K A 1 "cell" && (errFldB K A 2 "entry_id" && errFldB K A 3 "entry_id")))
end NV
/-! RepB -/
set_option Elab.async false
set_option linter.all false
set_option maxRecDepth 100000
set_option maxHeartbeats 600000
/-! repr of bools, of data within bounds -/
namespace NV
open PySem PySem.Spec PyProof.Rows L2
theorem nil_on {σ : L2.St} {H : Hp} {Q : List V → Hp → Prop} (h : Q [] H) : tNil σ H Q := h
theorem rp_bl {b : Bool} {H : Hp} {Q : VK} (q : Q (.str (PyData.bool b).shown) H) : rRepr [V.bl b] H Q := ⟨.bl b, .bool b, rfl, rfl, by simp only [PyData.showable], by simp only [PyData.depth]; omega, by simp only [PyData.shown]; cases b <;> decide, q⟩
theorem rp_good {ex : List Addr} {d : PyData} {v : V} {H : Hp} {Q : VK} (g : Good d) (r : Rp ex H d v) (q : Q (.str d.shown) H) : rRepr [v] H Q := ⟨v, d, rfl, r.less (by simp), show_of_nice d g.nice, g.deep, g.fits, q⟩
/-- a list of two bools, just laid -/
theorem rp_bls {a b : Bool} {l : Addr} {H : Hp} {Q : VK} (h : H l = some (.lst [V.bl a, V.bl b])) (q : Q (.str (PyData.list [.bool a, .bool b]).shown) H) : rRepr [V.ref l] H Q := by
  refine rp_good (ex := []) (d := .list [.bool a, .bool b]) ⟨?_, ?_, ?_⟩ ⟨l, _, rfl, by simp, h, .bl a, _, rfl, rfl, .bl b, [], rfl, rfl, rfl⟩ q
  · cases a <;> cases b <;> rfl
  · simp only [PyData.depth, PyData.depthAll]; decide
  · simp only [vol, volAll]; decide
end NV
/-! WrongL -/
set_option Elab.async false
set_option linter.all false
set_option maxRecDepth 100000
set_option maxHeartbeats 600000
/-! values that are no logs: a log with something wrong behind it -/
namespace NV
open PySem PySem.Spec PyProof.Rows L2
theorem catA_any {K : PySem.W.Frag} {a b : Addr} {xs ys : List V} {H : Hp} {Q : VK} (ha : H a = some (.tup xs)) (hb : H b = some (.tup ys)) (hy : ys ≠ []) (hl : xs.length + ys.length ≤ sizeLine)
    (q : ∀ r H', Kp [] H H' → H' r = some (.tup (xs ++ ys)) → (r = b ∨ H r = none) → Q (.ref r) H') : rCatA K (.ref a) (.ref b) H Q := by
  refine ⟨a, b, xs, ys, rfl, rfl, .inl (.inl ha), .inl (.inl hb), hl, fun e => ?_, fun _ e => absurd e hy, fun _ _ p np => q p _ (Kp.laid np) upd_same (.inr np)⟩
  refine q b H Kp.refl ?_ (.inl rfl)
  rw [e, List.nil_append]
  exact hb
theorem log_yes {es : List Ent} (h : LogOk es) (h60 : es.length ≤ 60) : logD' (logD es) = true := by
  show logD' (.tuple (es.map Ent.data)) = true
  rw [log_data h.ok, decide_eq_true h60, decide_eq_true h.nd]
  rfl
theorem log_bad {ds : List PyData} {d : PyData} (h : entryD d = false) : logD' (.tuple (ds ++ [d])) = false := by
  have e : (ds ++ [d]).all entryD = false := by
    rw [List.all_append]
    simp [h]
  show (decide ((ds ++ [d]).length ≤ 60) && (ds ++ [d]).all entryD && decide (((ds ++ [d]).map idOfD).Nodup)) = false
  rw [e, Bool.and_false, Bool.false_and]
theorem nice_snoc {ds : List PyData} {d : PyData} (h1 : niceAll ds = true) (h2 : niceD d = true) : niceAll (ds ++ [d]) = true := by
  refine nice_of_mem fun x hx => ?_
  rcases List.mem_append.mp hx with z | z
  · exact nice_mem h1 z
  · rw [List.mem_singleton.mp z]; exact h2
/-- a value that is no log, as data -/
def NoLog (ex : List Addr) (H : Hp) (y : V) : Prop := ∃ d, Rp ex H d y ∧ niceD d = true ∧ logD' d = false
end NV
/-! LcR -/
set_option Elab.async false
set_option linter.all false
set_option maxRecDepth 100000
set_option maxHeartbeats 600000
/-! a comprehension over texts that makes a tuple at each turn -/
namespace NV
open PySem PySem.Spec PyProof.Rows L2
/-- a triple laid after a list's items -/
theorem RpAll.laid {ex : List Addr} {H : Hp} {ds : List PyData} {vs ws : List V} {es : List PyData} {T : Addr} (h : RpAll ex H ds vs) (nT : H T = none) (lv : Live ex H) (hw : RpAll ex H es ws) : RpAll ex (upd H T (.tup ws)) (ds ++ [.tuple es]) (vs ++ [.ref T]) := by
  have kT : Kp [] H (upd H T (.tup ws)) := Kp.laid nT
  refine RpAll.app (RpAll.keep (kT.mono (by simp)) _ _ h) ⟨_, [], rfl, ⟨T, ws, rfl, fun z => lv T z nT, upd_same, RpAll.keep (kT.mono (by simp)) _ _ hw⟩, rfl⟩
/-- what is gone through: texts, by their places, the heap as it was -/
structure TxtIt (J : It) (zs : List Str) (H1 : Hp) : Prop where
  go : ∀ j H, Kp [] H1 H → j < zs.length → J.go j H
  stop : ∀ H, Kp [] H1 H → J.stop zs.length H
  yld : ∀ j H x H', Kp [] H1 H → j < zs.length → J.yld j H x H' → H' = H ∧ ∃ c, zs[j]? = some c ∧ x = .str c
theorem txt_at {zs : List Str} {j : Nat} {x : V} (h : (zs.map V.str)[j]? = some x) : ∃ c, zs[j]? = some c ∧ x = .str c := by
  rw [List.getElem?_map] at h
  cases hc : zs[j]? with
  | none => rw [hc] at h; cases h
  | some c => rw [hc] at h; exact ⟨c, rfl, (Option.some.inj h).symm⟩
theorem txt_tup {K : PySem.W.Frag} {a : Addr} {zs : List Str} {H1 : Hp} (h : H1 a = some (.tup (zs.map V.str))) : TxtIt (Itt K a) zs H1 where
  go := fun j H k hj => ⟨_, V.str zs[j], .inl (.inl (k _ _ (by simp) h)), by rw [List.getElem?_map, List.getElem?_eq_getElem hj]; rfl⟩
  stop := fun H k => ⟨_, .inl (.inl (k _ _ (by simp) h)), by rw [List.length_map]; exact Nat.le_refl _⟩
  yld := fun j H x H' k hj y => ⟨y.1, txt_at (y.2 _ (.inl (.inl (k _ _ (by simp) h))))⟩
theorem txt_lst {K : PySem.W.Frag} {a : Addr} {zs : List Str} {H1 : Hp} (h : H1 a = some (.lst (zs.map V.str))) : TxtIt (Itl K a) zs H1 where
  go := fun j H k hj => ⟨_, V.str zs[j], .inl (.inl (k _ _ (by simp) h)), by rw [List.getElem?_map, List.getElem?_eq_getElem hj]; rfl⟩
  stop := fun H k => ⟨_, .inl (.inl (k _ _ (by simp) h)), by rw [List.length_map]; exact Nat.le_refl _⟩
  yld := fun j H x H' k hj y => ⟨y.1, txt_at (y.2 _ (.inl (.inl (k _ _ (by simp) h))))⟩
theorem lc_rows {J : It} {te : TE} {i : Nat} {σ : L2.St} {C : Addr} {H1 : Hp} {Qd : Hp → Prop} {zs : List Str} {ex : List Addr} (f : Str → List PyData) (hJ : TxtIt J zs H1) (nC : H1 C = none) (lv : Live ex H1) (hz : zs.length < 1000) (hw : ∀ x, wipe ((wipe σ [i]).set i x) [i] = wipe σ [i])
    (hs : ∀ c H Q, c ∈ zs → Kp [] H1 H → (∀ T vs, H T = none → RpAll (C :: ex) H (f c) vs → Q (.ref T) (upd H T (.tup vs))) → te ((wipe σ [i]).set i (some (.str c))) H Q)
    (hd : ∀ H vs, Kp [] H1 H → H C = some (.lst vs) → RpAll (C :: ex) H (zs.map fun c => .tuple (f c)) vs → Qd H) :
    ∃ W : Nat → Nat → Hp → Prop, (∃ m, W 0 m (upd H1 C (.lst []))) ∧ ∀ i_1 m H, W i_1 m H →
      (J.stop i_1 H ∧ Qd H) ∨ (J.go i_1 H ∧ ∃ Nx : Hp → Prop, (∀ H', Nx H' → ∃ m', m' < m ∧ W (i_1 + 1) m' H') ∧ ∀ x H', J.yld i_1 H x H' → gName i x (wipe σ [i]) H' fun σ2 H2 => wipe σ2 [i] = wipe σ [i] ∧ tYes σ2 H2 fun b H3 =>
        if b = true then te σ2 H3 fun y H4 => ∃ acc, H4 C = some (.lst acc) ∧ acc.length < sizeLine ∧ Nx (upd H4 C (.lst (acc ++ [y]))) else Nx H3) := by
  have line : (100000 : Nat) < sizeLine := by decide
  have lvC : ∀ {H : Hp}, Kp [C] (upd H1 C (.lst [])) H → H C ≠ none → Live (C :: ex) H := fun k hC b hb => by
    rcases List.mem_cons.mp hb with e | e
    · rw [e]; exact hC
    · have kH : Kp [] H1 _ := Kp.drop (((Kp.laid (ex := []) nC).mono (by simp)).trans k) nC
      exact lv.kp0 kH b e
  have dC : ∀ {H : Hp}, Kp [C] (upd H1 C (.lst [])) H → Kp [] H1 H := fun k => Kp.drop (((Kp.laid (ex := []) nC).mono (by simp)).trans k) nC
  refine lc_inv zs.length (fun n H => Kp [C] (upd H1 C (.lst [])) H ∧ ∃ vs, H C = some (.lst vs) ∧ RpAll (C :: ex) H ((zs.take n).map fun c => .tuple (f c)) vs) ⟨Kp.refl, [], upd_same, rfl⟩ (fun H ⟨k, vs, hC, hr⟩ => ⟨hJ.stop H (dC k), hd H vs (dC k) hC (by rw [List.take_length] at hr; exact hr)⟩) (fun n H hn ⟨k, _⟩ => hJ.go n H (dC k) hn) ?_
  rintro n H x H' hn ⟨k, vs, hC, hr⟩ hy
  obtain ⟨rfl, c, hc, rfl⟩ := hJ.yld n H x H' (dC k) hn hy
  refine ⟨hw _, yes_on (hs c _ _ (List.mem_of_getElem? hc) (dC k) fun T ws nT hws => ?_)⟩
  have kT : Kp [] H' (upd H' T (.tup ws)) := Kp.laid nT
  have hvl : vs.length ≤ zs.length := by
    have := hr.length
    rw [List.length_map, List.length_take] at this
    omega
  refine ⟨vs, kT _ _ (by simp) hC, by omega, (k.trans (kT.mono (by simp))).trans (Kp.put (by simp)), _, upd_same, ?_⟩
  have h1 := RpAll.laid hr nT (lvC k (by rw [hC]; simp)) hws
  have h2 := RpAll.keep (Kp.put (ex := C :: ex) (p := C) (o := .lst (vs ++ [.ref T])) (by simp)) _ _ h1
  rw [List.take_add_one, hc, List.map_append]
  exact h2
end NV
/-! DataOk -/
set_option Elab.async false
set_option linter.all false
set_option maxRecDepth 100000
set_option maxHeartbeats 600000
/-! data within bounds, compared -/
namespace NV
open PySem PySem.Spec PyProof.Rows L2
/-- a text within bounds -/
def TxtOk (z : Str) : Prop := z.length ≤ 100 ∧ PyData.strOk z = true
structure DOk (n : Nat) (d : PyData) : Prop where
  nice : niceD d = true
  lay : d.canLay0 = true
  deep : d.depth ≤ n
theorem DOk.str {n : Nat} {z : Str} (h : TxtOk z) : DOk n (.str z) := ⟨by simp only [niceD, Bool.and_eq_true, decide_eq_true_eq]; exact h, by simp only [PyData.canLay0]; exact h.2, by simp only [PyData.depth]; exact Nat.zero_le _⟩
theorem DOk.non {n : Nat} : DOk n .none := ⟨rfl, rfl, by simp only [PyData.depth]; exact Nat.zero_le _⟩
theorem DOk.all {n : Nat} : ∀ {ds : List PyData}, (∀ d ∈ ds, DOk n d) → niceAll ds = true ∧ PyData.canLayAll0 ds = true ∧ PyData.depthAll ds ≤ n
  | [], _ => ⟨rfl, rfl, by simp only [PyData.depthAll]; exact Nat.zero_le _⟩
  | d :: ds, h => by
    obtain ⟨h1, h2, h3⟩ := DOk.all (ds := ds) fun x hx => h x (List.mem_cons_of_mem _ hx)
    have hd := h d List.mem_cons_self
    refine ⟨?_, ?_, ?_⟩
    · simp only [niceAll, Bool.and_eq_true]
      exact ⟨hd.nice, h1⟩
    · simp only [PyData.canLayAll0, Bool.and_eq_true]
      exact ⟨hd.lay, h2⟩
    · simp only [PyData.depthAll]
      exact Nat.max_le.mpr ⟨hd.deep, h3⟩
theorem DOk.tup {n : Nat} {ds : List PyData} (h : ∀ d ∈ ds, DOk n d) : DOk (n + 1) (.tuple ds) := by
  obtain ⟨h1, h2, h3⟩ := DOk.all h
  exact ⟨by simp only [niceD]; exact h1, by simp only [PyData.canLay0]; exact h2, by simp only [PyData.depth]; omega⟩
theorem DOk.lst {n : Nat} {ds : List PyData} (h : ∀ d ∈ ds, DOk n d) : DOk (n + 1) (.list ds) := by
  obtain ⟨h1, h2, h3⟩ := DOk.all h
  exact ⟨by simp only [niceD]; exact h1, by simp only [PyData.canLay0]; exact h2, by simp only [PyData.depth]; omega⟩
theorem DOk.shaped {n : Nat} {d : PyData} (h : DOk n d) (hn : n ≤ 64 := by decide) : SeqAt.shaped d = true := by
  unfold SeqAt.shaped
  rw [h.lay]
  exact decide_eq_true (Nat.le_trans h.deep hn)
theorem ne_ok {K : PySem.W.Frag} {ex ex' : List Addr} {H : Hp} {v u : V} {d : PyData} {n : Nat} {Q : VK} (h : DOk n d) (hv : Rp ex H d v) (hu : Rp ex' H d u) (q : Q (.bl false) H) (hn : n ≤ 64 := by decide) : rNeD K v u H Q := by
  refine ⟨d, d, Rp.dp _ _ h.nice h.lay hv, Rp.dp _ _ h.nice h.lay hu, h.shaped hn, h.shaped hn, ?_⟩
  rw [SeqAt.eqv_refl _ h.lay]
  exact q
theorem eq_ok {K : PySem.W.Frag} {ex ex' : List Addr} {H : Hp} {v u : V} {d : PyData} {n : Nat} {Q : VK} (h : DOk n d) (hv : Rp ex H d v) (hu : Rp ex' H d u) (q : Q (.bl true) H) (hn : n ≤ 64 := by decide) : rEqD K v u H Q := by
  refine ⟨d, d, Rp.dp _ _ h.nice h.lay hv, Rp.dp _ _ h.nice h.lay hu, h.shaped hn, h.shaped hn, ?_⟩
  rw [SeqAt.eqv_refl _ h.lay]
  exact q
theorem idB_txt {z : Str} (h : idB z = true) : TxtOk z := ⟨by have := (word_len h).1; omega, (word_len h).2⟩
theorem cellB_txt {z : Str} (h : cellB z = true) : TxtOk z := ⟨by have := (word_len h).1; omega, (word_len h).2⟩
theorem nil_txt : TxtOk ("" : Str) := ⟨by decide, by decide +kernel⟩
/-- a list of texts, as data -/
theorem strs_list {ex : List Addr} {H : Hp} {a : Addr} {zs : List Str} (hn : a ∉ ex) (h : H a = some (.lst (zs.map V.str))) : Rp ex H (.list (zs.map PyData.str)) (.ref a) := ⟨a, _, rfl, hn, h, RpAll.strs zs⟩
theorem strs_ok {zs : List Str} (h : ∀ z ∈ zs, TxtOk z) : DOk 1 (.list (zs.map PyData.str)) := DOk.lst fun d hd => by
  obtain ⟨z, hz, rfl⟩ := List.mem_map.mp hd
  exact DOk.str (h z hz)
end NV
/-! C06g -/
set_option Elab.async false
set_option linter.all false
set_option maxRecDepth 100000
set_option maxHeartbeats 1000000
/-! a pick out of a tuple, two promises of one def, drawn values -/
namespace NV
open PySem PySem.Spec PyProof.Rows L2
open C8 (pss_cut pe_gc)
def spPickT (K : PySem.W.Frag) : Sp := fun vs H Q _ => ∃ (D : Dr) (n : Nat) (a : Addr) (xs : List V), vs = [.ref D.d, .ref a] ∧ H a = some (.tup xs) ∧ 0 < xs.length ∧ xs.length < 1073741824 ∧ DrAt D (n + 1) H ∧
  ∀ (i : Nat) (v : V) (H' : Hp), xs[i]? = some v → Kp D.ex H H' → DrAt D n H' → Q v H'
theorem FnOk.or {CX : CXT} {P : Program} {w : World} {K : PySem.W.Frag} {mg : Str → Option Value} {base : Heap} {k : Nat} {f : Addr} {fd : FuncData} {ps : List Str} {sp sp' : Sp} (A : FnOk P w K mg base CX k f fd ps sp) (B : FnOk P w K mg base CX k f fd ps sp') : FnOk P w K mg base CX k f fd ps (fun vs H Q E => sp vs H Q E ∨ sp' vs H Q E) :=
  ⟨fun vs H Q E h => h.elim (A.len vs H Q E) (B.len vs H Q E), fun A' outer s H args us vs Q E hr e0 hb hv h => h.elim (A.run A' outer s H args us vs Q E hr e0 hb hv) (B.run A' outer s H args us vs Q E hr e0 hb hv)⟩
section
variable {P : Program} {w : World} {K : PySem.W.Frag} {mg : Str → Option Value} {base : Heap}
theorem ok_pickT (D : Fn K mg "_law_pick" sLawPick ["draw", "some"]) (T : Fn K mg "_law_take" sLawTake ["draw", "size"]) (b_len : mg "len" = none) (G : FnOk P w K mg base CX0 2 T.f T.fd ["draw", "size"] spTake) : FnOk P w K mg base CX0 3 D.f D.fd ["draw", "some"] (spPickT K) := by
  refine D.F.ok scLawPick (fun vs H Q E h => ?_) (fun cdv A outer s H vs Q E hr h => ?_)
  · obtain ⟨D, n, a, xs, rfl, _⟩ := h
    rfl
  obtain ⟨D, n, a, xs, rfl, ha, l0, l1, hD, q⟩ := h
  refine ⟨_, pss_one (ps_ret (pe_ix ix_tup (pv 1) (pe_fn T G hr (pa_cons (pv 0) (pa_cons (pe_callB call_len_seq (by rfl) b_len (by decide +kernel) (pa_cons (pv 1) pa_nil)) pa_nil))) (fun _ _ => rfl))), ?_⟩
  refine ⟨_, rfl, _, rfl, _, rfl, a, xs, rfl, .inr (.inl (.inl ha)), D, n, _, rfl, (by omega), (by omega), hD, fun i H' h0 h1 k hD' => ?_⟩
  have hlt : i.toNat < xs.length := by omega
  have ei : ((i.toNat : Nat) : Int) = i := by omega
  have g : atI xs ((i.toNat : Nat) : Int) = some xs[i.toNat] := atI_nat (List.getElem?_eq_getElem hlt)
  rw [ei] at g
  have na : a ∉ D.ex := fun z => by
    obtain ⟨_, large, items, left, turn, h1, h2, _⟩ := hD
    rcases List.mem_cons.mp z with z | z
    · rw [z, h1] at ha; cases ha
    · rw [List.mem_singleton.mp z, h2] at ha; cases ha
  exact ⟨a, xs, i, xs[i.toNat], rfl, rfl, .inl (.inl (k _ _ na ha)), g, q i.toNat _ H' (List.getElem?_eq_getElem hlt) k hD'⟩
end
/-- a value that is drawn -/
def VOk (d : PyData) : Prop := niceD d = true ∧ d.depth ≤ 1 ∧ vol d ≤ 100
def Drawn (ex : List Addr) (H : Hp) (y : V) : Prop := ∃ d, Rp ex H d y ∧ VOk d
theorem Drawn.keep {ex : List Addr} {H H' : Hp} {y : V} (h : Drawn ex H y) (k : Kp ex H H') : Drawn ex H' y := let ⟨d, r, o⟩ := h; ⟨d, Rp.keep k _ _ r, o⟩
theorem str_vok {z : Str} (h : z.length ≤ 9) (h2 : PyData.strOk z = true) : VOk (.str z) := by
  refine ⟨?_, by simp only [PyData.depth]; omega, by simp only [vol]; omega⟩
  simp only [niceD, Bool.and_eq_true, decide_eq_true_eq]
  exact ⟨by omega, h2⟩
theorem id_vok {z : Str} (h : idB z = true) : VOk (.str z) := str_vok (by have := (word_len h).1; omega) (word_len h).2
theorem cell_vok {z : Str} (h : cellB z = true) : VOk (.str z) := str_vok (by have := (word_len h).1; omega) (word_len h).2
theorem ids_vol : ∀ zs : List Str, (∀ z ∈ zs, z.length ≤ 6) → volAll (zs.map PyData.str) ≤ 64 * zs.length
  | [], _ => by simp [volAll]
  | z :: zs, h => by
    have := ids_vol zs fun y hy => h y (List.mem_cons_of_mem _ hy)
    have hz := h z List.mem_cons_self
    rw [List.map_cons]
    simp only [volAll, vol, List.length_cons]
    omega
theorem Ent.Ok.idb {e : Ent} (h : e.Ok) : idB e.id = true := by
  cases e with
  | wr id rs ws pr => exact h.1
  | qu id cs => exact h.1
theorem strs_depth : ∀ zs : List Str, PyData.depthAll (zs.map PyData.str) = 0
  | [] => rfl
  | z :: zs => by
    rw [List.map_cons]
    simp only [PyData.depthAll, PyData.depth]
    rw [strs_depth zs]
    rfl
/-- how far the result stands apart from the draws -/
theorem dr_tup {D : Dr} {n : Nat} {H : Hp} {p : Addr} {xs : List V} (d : DrAt D n H) (h : H p = some (.tup xs)) : p ∉ D.ex := fun z => by
  obtain ⟨_, large, items, left, turn, h1, h2, _⟩ := d
  rcases List.mem_cons.mp z with z | z
  · rw [z, h1] at h; cases h
  · rw [List.mem_singleton.mp z, h2] at h; cases h
end NV
/-! Exp4a -/
set_option Elab.async false
set_option linter.all false
set_option maxRecDepth 100000
set_option maxHeartbeats 1000000
/-! what the law of refusals expects: a cell, the retractions -/
namespace NV
open PySem PySem.Spec PyProof.Rows L2
open C8 (pss_cut pe_gc)
abbrev sLawIsCell : Stmt := topS 57
theorem scLawIsCell : FnScope ["thing", "sign"] ["thing"] (defScope sLawIsCell) := ⟨rfl, rfl, rfl, by decide +kernel, rfl, by decide +kernel, by decide +kernel⟩
theorem abc_in (c : Nat) : decide (c ∈ ("abcdefghijklmnopqrstuvwxyz" : Str).cps.toList) = isSign false c := by
  rw [← sign_in false c, show (("abcdefghijklmnopqrstuvwxyz" : Str) ++ digS false) = "abcdefghijklmnopqrstuvwxyz" by decide +kernel]
theorem abc9_in (c : Nat) : decide (c ∈ ("abcdefghijklmnopqrstuvwxyz0123456789" : Str).cps.toList) = isSign true c := by
  rw [← sign_in true c, show (("abcdefghijklmnopqrstuvwxyz" : Str) ++ digS true) = "abcdefghijklmnopqrstuvwxyz0123456789" by decide +kernel]
def spCellX : Sp := fun vs H Q _ => ∃ (v : V) (d : PyData) (ex : List Addr), vs = [v] ∧ Rp ex H d v ∧ niceD d = true ∧ ∀ H', Kp [] H H' → Q (.bl (wordD 4 false d)) H'
section
variable {P : Program} {w : World} {K : PySem.W.Frag} {mg : Str → Option Value} {base : Heap}
theorem ok_lcell (DLawIsCell : Fn K mg "_law_is_cell" sLawIsCell ["thing"]) (b_isinstance : mg "isinstance" = none) (b_len : mg "len" = none) (b_str : mg "str" = none) : FnOk P w K mg base CX0 1 DLawIsCell.f DLawIsCell.fd ["thing"] spCellX := by
  refine DLawIsCell.F.ok scLawIsCell (fun vs H Q E h => ?_) (fun cdv A outer s H vs Q E hr h => ?_)
  · obtain ⟨v, d, ex, rfl, _⟩ := h
    rfl
  obtain ⟨v, d, ex, rfl, hd, nd, q⟩ := h
  refine ⟨_, pss_cons (ps_if (PW.pt (pw_or (pt_not (pt_val (pe_callB (cr_isD (T := "str") (by decide)) (by rfl) b_isinstance (by decide +kernel) (pa_cons (pv 0) (pa_cons (pe_bltn (v := .ty "str") rfl b_str (by rfl) rfl) pa_nil))))) (pw_or1 (pt_not (pt_chain op_le op_le pe_int (pe_callB (lenVE K) (by rfl) b_len (by decide +kernel) (pa_cons (pv 0) pa_nil)) pe_int)))))
      (pss_one (ps_ret pe_bl))
      pss_nil)
      (pss_one (ps_ret (pe_cmpR (eqDE K hr.units) (pe_lc (own := [("sign", 1)]) (g := gName 1) (by rfl) scLawIsCell.nd (pi_str (pv 0)) (blkOk_by (N := ["thing", "sign"]) (sc := defScope sLawIsCell) (by decide +kernel)) (fun _ _ _ _ _ => (pg_name (i := 1) scLawIsCell.nd rfl (.inl rfl))) (fun _ _ _ _ _ => (pts_one (pt_cmpR op_notIn_sign (pv 1) pe_str rfl))) (fun _ _ _ _ _ => (pv 1))) (pe_lst pa_nil) (nomark _)))), ?_⟩
  refine ⟨_, rfl, v, d, ex, rfl, hd, _, rfl, ?_⟩
  cases hs : isD "str" d with
  | false =>
    refine iteT (iteT ?_)
    rw [← wordD_no (m := 4) (b := false) hs]
    exact q H Kp.refl
  | true =>
    obtain ⟨z, rfl⟩ := str_of_isD hs
    obtain rfl : v = .str z := hd
    have hzz : z.length ≤ 100 ∧ PyData.strOk z = true := by simpa [niceD] using nd
    obtain ⟨hz1, hok⟩ := hzz
    refine iteF ?_
    refine ⟨_, rfl, .str z, z.length, rfl, ⟨Nat.le_of_lt (small1000 (by omega)), rfl⟩, ?_⟩
    have no : (decide ((1 : Int) ≤ (z.length : Int)) = false ∨ decide ((z.length : Int) ≤ 4) = false) → wordD 4 false (.str z) = false := fun h => by
      show (decide (1 ≤ z.length) && decide (z.length ≤ 4) && _) = false
      rcases h with h | h
      · rw [show decide (1 ≤ z.length) = false from decide_eq_false (by have := of_decide_eq_false h; omega)]
        rfl
      · rw [show decide (z.length ≤ 4) = false from decide_eq_false (by have := of_decide_eq_false h; omega), Bool.and_false]
        rfl
    refine ⟨1, (z.length : Int), rfl, rfl, _, rfl, ?_⟩
    by_cases h1 : (1 : Int) ≤ (z.length : Int)
    · rw [decide_eq_true h1]
      refine iteT ⟨(z.length : Int), 4, rfl, rfl, _, rfl, ?_⟩
      by_cases h2 : (z.length : Int) ≤ 4
      · rw [decide_eq_true h2]
        refine iteF ?_
        refine ⟨_, rfl, z, rfl, fun C nC => ?_⟩
        refine lc_sign (fun c => !isSign false c) (by show z.length < 1000; omega) (fun c H2 Q2 q2 => ?_) (fun c H2 Q2 q2 => ⟨_, rfl, q2⟩) ?_
        · refine ⟨_, rfl, c, _, rfl, rfl, _, rfl, ?_⟩
          rw [abc_in]
          exact q2
        refine ⟨by show 0 ≤ sizeLine; omega, fun e ne => ?_⟩
        have ne' : e ≠ C := fun z => by rw [z, upd_same] at ne; cases ne
        refine eq_strs (zs := (z.cps.toList.filter fun c => !isSign false c).map fun c => ⟨#[c]⟩) (ys := []) (.inl (.inl (by rw [upd_ne ne'.symm, upd_same, List.map_map]; rfl))) (.inl (.inl upd_same)) (fun y hy => ?_) (fun y hy => by simp at hy) ?_
        · obtain ⟨c, hc, rfl⟩ := List.mem_map.mp hy
          exact strOk_one hok (List.mem_filter.mp hc).1
        have e1 : decide (((z.cps.toList.filter fun c => !isSign false c).map fun c => (⟨#[c]⟩ : Str)) = []) = wordD 4 false (.str z) := by
          show _ = (decide (1 ≤ z.length) && decide (z.length ≤ 4) && z.cps.toList.all (isSign false))
          rw [decide_eq_true (show 1 ≤ z.length by omega), decide_eq_true (show z.length ≤ 4 by omega), Bool.true_and, Bool.true_and]
          rw [Bool.eq_iff_iff, decide_eq_true_eq, List.map_eq_nil_iff, List.filter_eq_nil_iff, List.all_eq_true]
          exact ⟨fun h c hc => by have := h c hc; simpa using this, fun h c hc => by rw [h c hc]; simp⟩
        rw [e1]
        exact q _ ((Kp.laid nC).trans (Kp.laid ne))
      · rw [decide_eq_false h2]
        refine iteT ?_
        rw [← no (.inr (decide_eq_false h2))]
        exact q H Kp.refl
    · rw [decide_eq_false h1]
      refine iteF ⟨_, rfl, ?_⟩
      refine iteT ?_
      rw [← no (.inl (decide_eq_false h1))]
      exact q H Kp.refl
end
/-! ### dicts of entries by their names -/
theorem pairs_of {ex : List Addr} {H : Hp} {g : Ent → PyData} : ∀ {es : List Ent} {ys : List V}, RpAll ex H (es.map fun e => PyData.tuple [.str e.id, g e]) ys → ∃ (ps : List Addr) (kvs : List (L2.Key × V)), ys = ps.map V.ref ∧ Paired (fun p (kv : L2.Key × V) => H p = some (.tup [kV kv.1, kv.2])) ps kvs ∧ kvs.map (·.1) = es.map (fun e => (Sum.inr e.id : L2.Key)) ∧
    ∀ z : Str, (es.find? (fun e => decide (e.id = z)) = none → valV kvs (Sum.inr z : L2.Key) = none) ∧ ∀ e, es.find? (fun e => decide (e.id = z)) = some e → ∃ v, valV kvs (Sum.inr z : L2.Key) = some v ∧ Rp ex H (g e) v
  | [], ys, h => by
    obtain rfl : ys = [] := h
    exact ⟨[], [], rfl, .nil, rfl, fun z => ⟨fun _ => rfl, fun e he => by cases he⟩⟩
  | e :: es, ys, h => by
    obtain ⟨y, ys, rfl, ry, rest⟩ := h
    obtain ⟨p, us, rfl, _, hp, x1, us2, rfl, r1, x2, us3, rfl, r2, rfl⟩ := ry
    obtain rfl : x1 = .str e.id := r1
    obtain ⟨ps, kvs, rfl, hpp, hk, hv⟩ := pairs_of rest
    refine ⟨p :: ps, (Sum.inr e.id, x2) :: kvs, rfl, .cons hp hpp, by rw [List.map_cons, List.map_cons, hk], fun z => ?_⟩
    by_cases hz : e.id = z
    · subst hz
      refine ⟨fun hn => by simp [List.find?] at hn, fun e' he' => ?_⟩
      have : e = e' := by simpa [List.find?] using he'
      subst this
      exact ⟨x2, valV_pos rfl, r2⟩
    · rw [valV_neg (fun q => hz (Sum.inr.inj q))]
      have : (e :: es).find? (fun e => decide (e.id = z)) = es.find? (fun e => decide (e.id = z)) := by simp [List.find?, hz]
      rw [this]
      exact hv z
theorem merge_nd4 : ∀ (l kvs : List (L2.Key × V)), (kvs.map (·.1) ++ l.map (·.1)).Nodup → mergeK kvs l = kvs ++ l
  | [], kvs, _ => by
    rw [List.append_nil]
    rfl
  | p :: l, kvs, h => by
    show mergeK (putK kvs p.1 p.2) l = _
    have hn : p.1 ∉ kvs.map (·.1) := fun z => by
      rw [List.nodup_append] at h
      exact h.2.2 _ z _ List.mem_cons_self rfl
    have nk : valV kvs p.1 = none := by
      cases hv : valV kvs p.1 with
      | none => rfl
      | some v =>
        have ha : (kvs.any fun kv => decide (kv.1 = p.1)) = true := by rw [valV_any, hv]; rfl
        obtain ⟨x, hx, hd⟩ := List.any_eq_true.mp ha
        exact absurd (List.mem_map.mpr ⟨x, hx, of_decide_eq_true hd⟩) hn
    rw [putK_new _ nk, merge_nd4 l _ ?_, List.append_assoc]
    · rfl
    · rw [List.map_append, List.append_assoc]
      exact h
/-- the dict that is made of such pairs -/
structure ByName (ex : List Addr) (H : Hp) (d : Addr) (es : List Ent) (g : Ent → PyData) : Prop where
  at_ : ∃ kvs : List (L2.Key × V), H d = some (.dK kvs) ∧ ∀ z : Str, (es.find? (fun e => decide (e.id = z)) = none → valV kvs (Sum.inr z : L2.Key) = none) ∧ ∀ e, es.find? (fun e => decide (e.id = z)) = some e → ∃ v, valV kvs (Sum.inr z : L2.Key) = some v ∧ Rp ex H (g e) v
theorem ByName.no {ex : List Addr} {H : Hp} {d : Addr} {es : List Ent} {g : Ent → PyData} {z : Str} (h : ByName ex H d es g) (n : es.find? (fun e => decide (e.id = z)) = none) : DGet H d (.str z) none := by
  obtain ⟨kvs, hd, hv⟩ := h.at_
  rw [← (hv z).1 n]
  exact DGet.k (k := Sum.inr z) hd
theorem ByName.yes {ex : List Addr} {H : Hp} {d : Addr} {es : List Ent} {g : Ent → PyData} {z : Str} {e : Ent} (h : ByName ex H d es g) (n : es.find? (fun e => decide (e.id = z)) = some e) : ∃ v, DGet H d (.str z) (some v) ∧ Rp ex H (g e) v := by
  obtain ⟨kvs, hd, hv⟩ := h.at_
  obtain ⟨v, e1, r⟩ := (hv z).2 e n
  exact ⟨v, by rw [← e1]; exact DGet.k (k := Sum.inr z) hd, r⟩
theorem ByName.keep {ex : List Addr} {H H' : Hp} {d : Addr} {es : List Ent} {g : Ent → PyData} (h : ByName ex H d es g) (k : Kp [] H H') : ByName ex H' d es g := by
  obtain ⟨kvs, hd, hv⟩ := h.at_
  exact ⟨kvs, k _ _ (by simp) hd, fun z => ⟨(hv z).1, fun e he => let ⟨v, e1, r⟩ := (hv z).2 e he; ⟨v, e1, Rp.keep (k.mono (by simp)) _ _ r⟩⟩⟩
theorem byName_get (K : PySem.W.Frag) {ex : List Addr} {H : Hp} {C : Addr} {es : List Ent} {g : Ent → PyData} {ys : List V} (nd : (es.map Ent.id).Nodup) (hC : H C = some (.lst ys)) (hy : RpAll ex H (es.map fun e => PyData.tuple [.str e.id, g e]) ys) :
    ∃ (ps : List Addr) (kvs : List (L2.Key × V)), SqL K H C (ps.map V.ref) ∧ Paired (fun p (kv : L2.Key × V) => SqT K H p [kV kv.1, kv.2]) ps kvs ∧ ∀ d, H d = none → ByName ex (upd H d (.dK (mergeK [] kvs))) d es g := by
  obtain ⟨ps, kvs, rfl, hpp, hk, hv⟩ := pairs_of hy
  refine ⟨ps, kvs, .inl (.inl hC), hpp.mono fun p kv h => .inl (.inl h), fun d nd' => ?_⟩
  rw [merge_nd4 kvs [] (by
    rw [List.map_nil, List.nil_append, hk]
    have : (es.map fun e => (Sum.inr e.id : L2.Key)) = (es.map Ent.id).map Sum.inr := by rw [List.map_map]; rfl
    rw [this]
    unfold List.Nodup
    rw [List.pairwise_map]
    exact nd.imp fun h h2 => h (Sum.inr.inj h2)), List.nil_append]
  have kP : Kp [] H (upd H d (.dK kvs)) := Kp.laid nd'
  exact ⟨kvs, upd_same, fun z => ⟨(hv z).1, fun e he => let ⟨v, e1, r⟩ := (hv z).2 e he; ⟨v, e1, Rp.keep (kP.mono (by simp)) _ _ r⟩⟩⟩
/-- as lc_ents, but what is made may be new -/
theorem lc_entsL {J : It} {tt : TT} {te : TE} {i : Nat} {σ : L2.St} {C : Addr} {H1 : Hp} {Qd : Hp → Prop} {xs : List V} {gs : List Ent} {ex : List Addr} (f : Ent → PyData) (p : Ent → Bool) (wk : Walks J xs C H1) (nC : H1 C = none) (hx : RpAll ex H1 (gs.map Ent.data) xs) (hz : xs.length < 1000)
    (htt : ∀ (e : Ent) (x : V) (H : Hp) (Q : Bool → Hp → Prop), e ∈ gs → Kp [C] H1 H → Rp (C :: ex) H e.data x → (∀ H', Kp [] H H' → Q (p e) H') → tt ((wipe σ [i]).set i (some x)) H Q)
    (hte : ∀ (e : Ent) (x : V) (H : Hp) (Q : V → Hp → Prop), e ∈ gs → p e = true → Kp [C] H1 H → H C ≠ none → Rp (C :: ex) H e.data x → (∀ v H', Kp [] H H' → Rp (C :: ex) H' (f e) v → Q v H') → te ((wipe σ [i]).set i (some x)) H Q)
    (hd : ∀ H' ys, Kp [C] H1 H' → H' C = some (.lst ys) → RpAll (C :: ex) H' ((gs.filter p).map f) ys → Qd H') (hw : ∀ x : V, wipe ((wipe σ [i]).set i (some x)) [i] = wipe σ [i]) :
    ∃ W : Nat → Nat → Hp → Prop, (∃ m, W 0 m (upd H1 C (.lst []))) ∧ ∀ i' m H, W i' m H →
      (J.stop i' H ∧ Qd H) ∨ (J.go i' H ∧ ∃ Nx : Hp → Prop, (∀ H', Nx H' → ∃ m', m' < m ∧ W (i' + 1) m' H') ∧ ∀ x H', J.yld i' H x H' → gName i x (wipe σ [i]) H' fun σ2 H2 => wipe σ2 [i] = wipe σ [i] ∧ tt σ2 H2 fun b H3 =>
        if b = true then te σ2 H3 fun y H4 => ∃ acc, H4 C = some (.lst acc) ∧ acc.length < sizeLine ∧ Nx (upd H4 C (.lst (acc ++ [y]))) else Nx H3) := by
  have hl : gs.length = xs.length := by
    have := hx.length
    rwa [List.length_map] at this
  have line : (100000 : Nat) < sizeLine := by decide
  have hxC : RpAll (C :: ex) (upd H1 C (.lst [])) (gs.map Ent.data) xs := RpAll.keep (Kp.laid nC) _ _ (RpAll.apart nC _ _ hx)
  refine lc_inv xs.length (fun j H => Kp [C] H1 H ∧ ∃ ys, H C = some (.lst ys) ∧ ys.length ≤ j ∧ RpAll (C :: ex) H (((gs.take j).filter p).map f) ys) ⟨Kp.laid nC, [], upd_same, Nat.zero_le _, rfl⟩ ?_ (fun j H hj ⟨k, _⟩ => wk.go j H hj k) ?_
  · rintro H ⟨k, ys, hC, hlen, hy⟩
    rw [← hl, List.take_length] at hy
    exact ⟨wk.stop H k, hd H ys k hC hy⟩
  · rintro j H x H' hj ⟨k, ys, hC, hlen, hy⟩ y
    obtain ⟨rfl, hxj⟩ := wk.yld j H x H' k y
    obtain ⟨e, he⟩ : ∃ e, gs[j]? = some e := ⟨_, List.getElem?_eq_getElem (by omega)⟩
    have hm : e ∈ gs := List.mem_of_getElem? he
    obtain ⟨x', hx', rx⟩ := RpAll.at hxC (show (gs.map Ent.data)[j]? = some e.data by rw [List.getElem?_map, he]; rfl)
    rw [hxj] at hx'
    obtain rfl := Option.some.inj hx'
    have rx2 : Rp (C :: ex) H' e.data x := by
      refine Rp.keep (fun b o hb ho => ?_) _ _ rx
      have hbC : b ≠ C := fun z => hb (by rw [z]; simp)
      rw [upd_ne hbC] at ho
      exact k b o (by simpa using hbC) ho
    have tk : ∀ b, p e = b → ((gs.take (j + 1)).filter p).map f = ((gs.take j).filter p).map f ++ (if b then [f e] else []) := fun b hb => by
      rw [List.take_add_one, he, List.filter_append, List.map_append]
      cases b <;> simp [List.filter, hb]
    refine ⟨hw x, htt e x H' _ hm k rx2 fun H2 k2 => ?_⟩
    have kC2 : Kp [C] H1 H2 := k.trans (k2.mono (by simp))
    have hC2 := k2 _ _ (by simp) hC
    have rx3 := Rp.keep (k2.mono (ex' := C :: ex) (by simp)) _ _ rx2
    have hy2 := RpAll.keep (k2.mono (ex' := C :: ex) (by simp)) _ _ hy
    cases hp : p e with
    | true =>
      rw [if_pos rfl]
      refine hte e x H2 _ hm hp kC2 (fun z => by rw [z] at hC2; cases hC2) rx3 fun v H3 k3 rv => ?_
      refine ⟨ys, k3 _ _ (by simp) hC2, by omega, kC2.trans ((k3.mono (by simp)).trans (Kp.put (by simp))), ys ++ [v], upd_same, by rw [List.length_append]; simp; omega, ?_⟩
      rw [tk true hp]
      exact RpAll.app (RpAll.keep ((k3.mono (by simp)).trans (Kp.put (by simp))) _ _ hy2) (RpAll.one (Rp.keep (Kp.put (by simp)) _ _ rv))
    | false =>
      rw [if_neg (by simp)]
      refine ⟨kC2, ys, hC2, by omega, ?_⟩
      rw [tk false hp]
      simpa using hy2
theorem kind_q4 (b : Bool) : decide (V.str (if b = true then ("write" : Str) else "query") = V.str "query") = !b := by
  cases b with
  | true => exact decide_eq_false (by intro h; exact absurd (V.str.inj h) (by decide))
  | false => exact decide_eq_true rfl
/-- a pair of an entry's name and something, made in a comprehension -/
theorem pair_in {ex : List Addr} {C T : Addr} {H : Hp} {z : Str} {d : PyData} {u : V} (nT : H T = none) (hC : H C ≠ none) (lv : Live ex H) (hu : Rp (C :: ex) H d u) : Rp (C :: ex) (upd H T (.tup [V.str z, u])) (.tuple [.str z, d]) (.ref T) := by
  refine ⟨T, _, rfl, fun h => ?_, upd_same, .str z, [u], rfl, rfl, u, [], rfl, Rp.keep (Kp.laid nT) _ _ hu, rfl⟩
  rcases List.mem_cons.mp h with h | h
  · rw [h] at nT; exact hC nT
  · exact lv.fresh nT h
/-- what an error's telling looks like, None where there is none -/
def ErrV (ex : List Addr) (H : Hp) (o : Option (Nat × PyData)) (y : V) : Prop := match o with
  | none => y = .non
  | some r => ∃ (a : Addr) (x : V), y = .ref a ∧ a ∉ ex ∧ H a = some (.tup [.str (resW r.1), x]) ∧ Rp ex H r.2 x
end NV
/-! Exp4b -/
set_option Elab.async false
set_option linter.all false
set_option maxRecDepth 100000
set_option maxHeartbeats 1000000
/-! what the law of refusals expects of retractions -/
namespace NV
open PySem PySem.Spec PyProof.Rows L2
open C8 (pss_cut pe_gc)
abbrev sLawGoneExpected : Stmt := topS 58
theorem scLawGoneExpected : FnScope ["book", "gone", "name", "table", "signs", "fits", "entry", "sign"] ["book", "gone"] (defScope sLawGoneExpected) := ⟨rfl, rfl, rfl, by decide +kernel, rfl, by decide +kernel, by decide +kernel⟩
def spGoneExp : Sp := fun vs H Q _ => ∃ (v u : V) (es : List Ent) (d : PyData) (ex : List Addr), vs = [v, u] ∧ Rp ex H (logD es) v ∧ LogOk es ∧ es.length ≤ 60 ∧ Rp ex H d u ∧ niceD d = true ∧ Live ex H ∧ ∀ y H', Kp [] H H' → ErrV ex H' (goneE es d) y → Q y H'
section
variable {P : Program} {w : World} {K : PySem.W.Frag} {mg : Str → Option Value} {base : Heap}
theorem ok_gonexp (DLawGoneExpected : Fn K mg "_law_gone_expected" sLawGoneExpected ["book", "gone"]) (b_isinstance : mg "isinstance" = none) (b_len : mg "len" = none) (b_str : mg "str" = none) (b_list : mg "list" = none) (b_tuple : mg "tuple" = none) (b_dict : mg "dict" = none) :
    FnOk P w K mg base CX0 1 DLawGoneExpected.f DLawGoneExpected.fd ["book", "gone"] spGoneExp := by
  refine DLawGoneExpected.F.ok scLawGoneExpected (fun vs H Q E h => ?_) (fun cdv A outer s H vs Q E hr h => ?_)
  · obtain ⟨v, u, es, d, ex, rfl, _⟩ := h
    rfl
  obtain ⟨v, u, es, d, ex, rfl, rv, ok, h60, rd, nd, lv, q⟩ := h
  have hu := hu_of hr
  have line : (10000 : Nat) < sizeLine := by decide
  have two : 2 ≤ sizeLine := by decide
  refine ⟨_, pss_cons (ps_if (pt_not (pt_val (pe_callB (cr_isD2 (T := "list") (U := "tuple") (by decide) (by decide)) (by rfl) b_isinstance (by decide +kernel) (pa_cons (pv 1) (pa_cons (pe_tup (pa_cons (pe_bltn (v := .ty "list") rfl b_list (by rfl) rfl) (pa_cons (pe_bltn (v := .ty "tuple") rfl b_tuple (by rfl) rfl) pa_nil))) pa_nil)))))
      (pss_one (ps_ret (pe_tup (pa_cons pe_str (pa_cons (pv 1) pa_nil)))))
      pss_nil)
      (pss_cons (ps_asg (pe_tup (pa_cons (pe_callTy (call_dictP (by rfl)) (by rfl) b_dict (by decide +kernel) (pa_cons (pe_lc (own := [("entry", 6)]) (g := gName 6) (tt := tYes) (by rfl) scLawGoneExpected.nd (piTupE K (pv 0)) (blkOk_by (N := ["book", "gone", "name", "table", "signs", "fits", "entry", "sign"]) (sc := defScope sLawGoneExpected) (by decide +kernel)) (fun _ _ _ _ _ => (pg_name (i := 6) scLawGoneExpected.nd rfl (.inl rfl))) (fun _ _ _ _ _ => pts_nil) (fun _ _ _ _ _ => (pe_tup (pa_cons (pe_ix (ixtE K) (pv 6) pe_int (fun _ _ => rfl)) (pa_cons (pv 6) pa_nil))))) pa_nil)) (pa_cons pe_str pa_nil))) (pg_tupE K (by rfl) (pgs_cons (pg_name (i := 3) scLawGoneExpected.nd rfl (.inl rfl)) (pgs_cons (pg_name (i := 4) scLawGoneExpected.nd rfl (.inr rfl)) pgs_nil))))
      (pss_cons (ps_for PassesOwn.never rfl (pi_seq K (pv 1)) (pg_name (i := 2) scLawGoneExpected.nd rfl (.inl rfl))
      (pss_cons (ps_set (i := 5) scLawGoneExpected.nd rfl (.inl rfl) (pe_and (pe_callB (cr_isD (T := "str") (by decide)) (by rfl) b_isinstance (by decide +kernel) (pa_cons (pv 2) (pa_cons (pe_bltn (v := .ty "str") rfl b_str (by rfl) rfl) pa_nil))) (pe_one (pe_chain op_le op_le pe_int (pe_callB (lenVE K) (by rfl) b_len (by decide +kernel) (pa_cons (pv 2) pa_nil)) pe_int))))
      (pss_cons (ps_if (PW.pt (pw_or (pt_not (pt_val (pv 5))) (pw_or1 (pt_cmpR (op_neNil K hr.units) (pe_lc (own := [("sign", 7)]) (g := gName 7) (by rfl) scLawGoneExpected.nd (pi_str (pv 2)) (blkOk_by (N := ["book", "gone", "name", "table", "signs", "fits", "entry", "sign"]) (sc := defScope sLawGoneExpected) (by decide +kernel)) (fun _ _ _ _ _ => (pg_name (i := 7) scLawGoneExpected.nd rfl (.inl rfl))) (fun _ _ _ _ _ => (pts_one (pt_cmpR op_notIn_sign (pv 7) (pv 4) rfl))) (fun _ _ _ _ _ => (pv 7))) (pe_lst pa_nil) (nomark _)))))
      (pss_one (ps_ret (pe_tup (pa_cons pe_str (pa_cons (pv 2) pa_nil)))))
      pss_nil)
      (pss_cons (ps_if (PW.pt (pw_and (pt_cmp (pc_din hu (pv 2) (pv 3))) (pw_and1 (pt_cmpR op_eq (pe_ix (ixtE K) (pe_dget hu (pv 3) (pv 2) (fun _ _ => rfl)) pe_int (fun _ _ => rfl)) pe_str (nomark _)))))
      (pss_one (ps_ret (pe_tup (pa_cons pe_str (pa_cons (pv 2) pa_nil)))))
      pss_nil)
      (pss_one (ps_if (PW.pt (pw_and (pt_cmp (pc_din hu (pv 2) (pv 3))) (pw_and1 (pt_cmpR op_isN (pe_ix (ixtE K) (pe_dget hu (pv 3) (pv 2) (fun _ _ => rfl)) pe_int (fun _ _ => rfl)) pe_non (nomark _)))))
      (pss_one (ps_ret (pe_tup (pa_cons pe_str (pa_cons (pv 2) pa_nil)))))
      pss_nil))))))
      (pss_one (ps_ret pe_non)))), ?_⟩
  obtain ⟨a, xs, rfl, na, ha, hx⟩ := rv
  have hl : es.length = xs.length := by
    have := hx.length
    rwa [List.length_map] at this
  have ans : ∀ {Hx : Hp} {p : Addr} {i : Nat} {dd : PyData} {x : V}, Kp [] H Hx → Hx p = none → goneE es d = some (i, dd) → Rp ex Hx dd x → Q (.ref p) (upd Hx p (.tup [.str (resW i), x])) := fun {Hx p i dd x} k np e r => by
    refine q (.ref p) _ (k.trans (Kp.laid np)) ?_
    rw [e]
    exact ⟨p, x, rfl, (lv.kp0 k).fresh np, upd_same, Rp.keep (Kp.laid np) _ _ r⟩
  refine ⟨_, rfl, by show 2 ≤ sizeLine; omega, fun tp ntp => ?_⟩
  have kt : Kp [] H (upd H tp (.tup [.ty "list", .ty "tuple"])) := Kp.laid ntp
  have ht : (upd H tp (.tup [.ty "list", .ty "tuple"])) tp = some (.tup [.ty "list", .ty "tuple"]) := upd_same
  have ha1 := kt _ _ (by simp) ha
  have hx1 := RpAll.keep (kt.mono (ex' := ex) (by simp)) _ _ hx
  have rd1 := Rp.keep (kt.mono (ex' := ex) (by simp)) _ _ rd
  have lv1 := lv.kp0 kt
  obtain ⟨H1, e1⟩ : ∃ H1, upd H tp (.tup [.ty "list", .ty "tuple"]) = H1 := ⟨_, rfl⟩
  rw [e1] at kt ht ha1 hx1 rd1 lv1 ⊢
  refine ⟨u, d, ex, tp, rfl, ht, rd1, _, rfl, ?_⟩
  cases hseq : (isD "list" d || isD "tuple" d) with
  | false =>
    have e : goneE es d = some (0, d) := by
      cases d with
      | list ds => simp [isD, tyN] at hseq
      | tuple ds => simp [isD, tyN] at hseq
      | _ => rfl
    exact iteT ⟨_, rfl, two, fun p np => ans kt np e rd1⟩
  | true =>
  obtain ⟨g, us, ds, b, rfl, row, hds, hE, nds, ng⟩ := seq_of (K := K) (es := es) hseq rd1 nd
  refine iteF ⟨_, rfl, a, rfl, ⟨xs, .inl (.inl ha1)⟩, fun C nC => ?_⟩
  refine lc_entsL (J := Itt K a) (gs := es) (ex := ex) (fun e => .tuple [.str e.id, e.data]) (fun _ => true) (walks_tup ha1 nC) nC hx1 (by omega) (fun e x H2 Q2 hm k2 r2 q2 => q2 H2 Kp.refl) (fun e x H2 Q2 hm hp k2 c2 r2 q2 => ?_) (fun Hn ys kn en rn => ?_) fun x => wipe_one _ _ _
  · obtain ⟨d1, ed1, hd1, _⟩ := ent_reads e
    refine ⟨_, rfl, c_of (ent_ix r2 ed1 hd1 rfl fun vi ri => ?_)⟩
    obtain rfl : vi = .str e.id := ri
    exact ⟨_, rfl, two, fun T nT => q2 (.ref T) _ (Kp.laid nT) (pair_in nT c2 (lv1.kp0 (Kp.drop k2 nC)) r2)⟩
  have h1 : es.filter (fun _ => true) = es := by simp
  rw [h1] at rn
  have kn1 : Kp [] H1 Hn := Kp.drop kn nC
  obtain ⟨ps, kvs, hSq, hPd, hmk⟩ := byName_get K ok.nd en rn
  refine ⟨C, ps, kvs, rfl, hSq, hPd, fun PD nPD => ⟨two, fun T nT => ⟨T, _, rfl, .inl (.inl upd_same), rfl, _, _, rfl, _, _, rfl, rfl, ?_⟩⟩⟩
  have k2 : Kp [] Hn (upd Hn PD (.dK (mergeK [] kvs))) := Kp.laid nPD
  have bn := hmk PD nPD
  generalize upd Hn PD (.dK (mergeK [] kvs)) = H2 at nT k2 bn ⊢
  have kT : Kp [] H2 (upd H2 T (.tup [.ref PD, .str "abcdefghijklmnopqrstuvwxyz0123456789"])) := Kp.laid nT
  have bn3 := bn.keep kT
  have k13 : Kp [] H1 (upd H2 T (.tup [.ref PD, .str "abcdefghijklmnopqrstuvwxyz0123456789"])) := kn1.trans (k2.trans kT)
  generalize upd H2 T (.tup [.ref PD, .str "abcdefghijklmnopqrstuvwxyz0123456789"]) = H3 at kT bn3 k13 ⊢
  have kH3 : Kp [] H H3 := kt.trans k13
  have row3 := row.keep0 k13
  have hds3 := RpAll.keep (k13.mono (ex' := ex) (by simp)) _ _ hds
  refine ⟨_, rfl, g, us, b, rfl, row3.seq, for_row (K := K) (b := b) (a := g) (xs := us) (fun i σ H' => ∃ c2 c5 : Option V, σ = [some (.ref a), some (.ref g), c2, some (.ref PD), some (.str "abcdefghijklmnopqrstuvwxyz0123456789"), c5, none, none] ∧ Kp [] H3 H' ∧ ∀ j y, j < i → ds[j]? = some y → goneI es y = none) ⟨none, none, rfl, Kp.refl, fun j y hj => absurd hj (by omega)⟩ ?_ ?_ ?_⟩
  · rintro i σ H' ⟨_, _, _, k', _⟩
    exact row3.keep0 k'
  · rintro i x σ H' hxi ⟨c2, c5, rfl, k', before⟩
    obtain ⟨y, hy, ry⟩ := RpAll.back hds3 hxi
    have ry' := Rp.keep (k'.mono (ex' := ex) (by simp)) _ _ ry
    have kH' := kH3.trans k'
    have next : goneI es y = none → ∀ j y', j < i + 1 → ds[j]? = some y' → goneI es y' = none := fun hn j y' hj hy' => by
      by_cases hji : j = i
      · subst hji
        rw [hy] at hy'
        obtain rfl := Option.some.inj hy'
        exact hn
      · exact before j y' (by omega) hy'
    have found : ∀ {r : Nat × PyData}, goneI es y = some r → goneE es d = some r := fun {r} h => by rw [hE]; exact find_at before hy h
    refine ⟨_, rfl, x, y, ex, rfl, ry', _, rfl, ?_⟩
    cases hs : isD "str" y with
    | false => exact iteF ⟨_, rfl, _, rfl, iteT (iteT ⟨_, rfl, two, fun p np => ans kH' np (found (goneI_bad (wordD_no hs))) ry'⟩)⟩
    | true =>
    obtain ⟨z, rfl⟩ := str_of_isD hs
    obtain rfl : x = .str z := ry'
    have hzz : z.length ≤ 100 ∧ PyData.strOk z = true := by simpa [niceD] using nice_at nds hy
    obtain ⟨hz1, hok⟩ := hzz
    have no : (decide ((1 : Int) ≤ (z.length : Int)) = false ∨ decide ((z.length : Int) ≤ 6) = false) → wordD 6 true (.str z) = false := fun h => by
      show (decide (1 ≤ z.length) && decide (z.length ≤ 6) && _) = false
      rcases h with h | h
      · rw [show decide (1 ≤ z.length) = false from decide_eq_false (by have := of_decide_eq_false h; omega)]
        rfl
      · rw [show decide (z.length ≤ 6) = false from decide_eq_false (by have := of_decide_eq_false h; omega), Bool.and_false]
        rfl
    refine iteT ⟨_, rfl, .str z, z.length, rfl, ⟨Nat.le_of_lt (small1000 (by omega)), rfl⟩, 1, (z.length : Int), rfl, rfl, _, rfl, ?_⟩
    by_cases h1 : (1 : Int) ≤ (z.length : Int)
    case neg =>
      rw [decide_eq_false h1]
      exact iteF ⟨_, rfl, _, rfl, iteT (iteT ⟨_, rfl, two, fun p np => ans kH' np (found (goneI_bad (no (.inl (decide_eq_false h1))))) rfl⟩)⟩
    rw [decide_eq_true h1]
    refine iteT ⟨(z.length : Int), 6, rfl, rfl, ?_⟩
    by_cases h2 : (z.length : Int) ≤ 6
    case neg =>
      refine ⟨_, rfl, _, rfl, ?_⟩
      rw [decide_eq_false h2]
      exact iteT (iteT ⟨_, rfl, two, fun p np => ans kH' np (found (goneI_bad (no (.inr (decide_eq_false h2))))) rfl⟩)
    refine ⟨_, rfl, _, rfl, ?_⟩
    rw [decide_eq_true h2]
    refine iteF ⟨_, rfl, z, rfl, fun C2 nC2 => ?_⟩
    refine lc_sign (fun c => !isSign true c) (by show z.length < 1000; omega) (fun c H5 Q5 q5 => ?_) (fun c H5 Q5 q5 => ⟨_, rfl, q5⟩) ?_
    · refine ⟨_, rfl, _, rfl, c, _, rfl, rfl, _, rfl, ?_⟩
      rw [abc9_in]
      exact q5
    refine ⟨by show 0 ≤ sizeLine; omega, fun e ne => ?_⟩
    have ne' : e ≠ C2 := fun z => by rw [z, upd_same] at ne; cases ne
    have e1 : (!((z.cps.toList.filter fun c => !isSign true c).map fun c => V.str ⟨#[c]⟩).isEmpty) = !idB z := by
      have hw : idB z = (decide (1 ≤ z.length) && decide (z.length ≤ 6) && z.cps.toList.all (isSign true)) := rfl
      rw [hw, decide_eq_true (show 1 ≤ z.length by omega), decide_eq_true (show z.length ≤ 6 by omega), Bool.true_and, Bool.true_and]
      congr 1
      rw [Bool.eq_iff_iff, List.isEmpty_iff, List.map_eq_nil_iff, List.filter_eq_nil_iff, List.all_eq_true]
      exact ⟨fun h c hc => by have := h c hc; simpa using this, fun h c hc => by rw [h c hc]; simp⟩
    refine ⟨C2, e, _, rfl, rfl, .inl (.inl (by rw [upd_ne ne'.symm]; exact upd_same)), .inl (.inl upd_same), _, rfl, ?_⟩
    rw [e1]
    have k5 : Kp [] H' (upd (upd H' C2 (.lst ((z.cps.toList.filter fun c => !isSign true c).map fun c => V.str ⟨#[c]⟩))) e (.lst [])) := (Kp.laid nC2).trans (Kp.laid ne)
    generalize upd (upd H' C2 (.lst ((z.cps.toList.filter fun c => !isSign true c).map fun c => V.str ⟨#[c]⟩))) e (.lst []) = H5 at k5 ⊢
    have kH5 := kH'.trans k5
    have bn5 := bn3.keep (k'.trans k5)
    cases hz : idB z with
    | false => exact iteT ⟨_, rfl, two, fun p np => ans kH5 np (found (goneI_bad (show wordD 6 true (.str z) = false from hz))) rfl⟩
    | true =>
    refine iteF ?_
    cases hf : es.find? (fun e => decide (e.id = z)) with
    | none =>
      have g0 := bn5.no hf
      refine ⟨_, rfl, _, rfl, PD, _, rfl, g0, _, rfl, iteF (iteF ⟨_, rfl, _, rfl, PD, _, rfl, g0, _, rfl, iteF (iteF ⟨_, _, rfl, k'.trans k5, next ?_⟩)⟩)⟩
      rw [goneI_str hz, hf]
    | some e =>
      obtain ⟨ve, ge, re⟩ := bn5.yes hf
      obtain ⟨d0, ed0, hd0⟩ := ent_kind e
      have hg : goneI es (.str z) = (mayE e).map fun i => (i, PyData.str z) := by rw [goneI_str hz, hf]
      refine ⟨_, rfl, _, rfl, PD, _, rfl, ge, _, rfl, iteT ⟨_, rfl, _, rfl, PD, ve, rfl, ge, c_of (ent_ix re ed0 hd0 rfl fun vk rk => ?_)⟩⟩
      obtain rfl : vk = .str (if e.isW then "write" else "query") := rk
      refine ⟨rfl, _, rfl, ?_⟩
      rw [kind_q4]
      cases hw : e.isW with
      | false =>
        have hm : mayE e = some 0 := by unfold mayE; rw [if_pos hw]
        exact iteT ⟨_, rfl, two, fun p np => ans (i := 0) (dd := .str z) (x := .str z) kH5 np (found (by rw [hg, hm]; rfl)) rfl⟩
      | true =>
        obtain ⟨d4, ed4, _, hd4⟩ := ent_writes hw
        refine iteF ⟨_, rfl, _, rfl, PD, _, rfl, ge, _, rfl, iteT ⟨_, rfl, _, rfl, PD, ve, rfl, ge, c_of (ent_ix re ed4 hd4 rfl fun up rp => ?_)⟩⟩
        cases hpr : e.pr with
        | none =>
          rw [hpr] at rp
          obtain rfl : up = .non := rp
          have hm : mayE e = some 2 := by unfold mayE; rw [hw, hpr]; rfl
          exact ⟨rfl, _, rfl, iteT ⟨_, rfl, two, fun p np => ans (i := 2) (dd := .str z) (x := .str z) kH5 np (found (by rw [hg, hm]; rfl)) rfl⟩⟩
        | some i' =>
          rw [hpr] at rp
          obtain rfl : up = .int i' := rp
          have hm : mayE e = none := by unfold mayE; rw [hw, hpr]; rfl
          exact ⟨rfl, _, rfl, iteF ⟨_, _, rfl, k'.trans k5, next (by rw [hg, hm]; rfl)⟩⟩
  · rintro σ H' ⟨c2, c5, rfl, k', before⟩
    have hlen := hds.length
    refine q .non H' (kH3.trans k') ?_
    rw [show goneE es d = none by rw [hE]; exact find_none fun j y hj hy => before j y (by omega) hy]
    rfl
end
end NV
/-! Exp4c -/
set_option Elab.async false
set_option linter.all false
set_option maxRecDepth 100000
set_option maxHeartbeats 1000000
/-! what the law of refusals expects of targets and readers -/
namespace NV
open PySem PySem.Spec PyProof.Rows L2
open C8 (pss_cut pe_gc)
abbrev sLawGoalExpected : Stmt := topS 59
theorem scLawGoalExpected : FnScope ["book", "goal", "wide", "entry"] ["book", "goal"] (defScope sLawGoalExpected) := ⟨rfl, rfl, rfl, by decide +kernel, rfl, by decide +kernel, by decide +kernel⟩
abbrev sLawReadExpected : Stmt := topS 60
theorem scLawReadExpected : FnScope ["book", "gone", "reader", "spot", "table", "entry"] ["book", "gone", "reader", "spot"] (defScope sLawReadExpected) := ⟨rfl, rfl, rfl, by decide +kernel, rfl, by decide +kernel, by decide +kernel⟩
theorem any_strS {zs : List Str} {c : Str} : (zs.any fun z => strD z (.str c)) = decide (c ∈ zs) := by
  show (zs.any fun z => decide (c = z)) = decide (c ∈ zs)
  by_cases h : c ∈ zs
  · rw [decide_eq_true h, List.any_eq_true]
    exact ⟨c, h, by simp⟩
  · rw [decide_eq_false h, List.any_eq_false]
    exact fun z hz => by simpa using fun q : c = z => h (by rw [q]; exact hz)
theorem notin_names4 {K : PySem.W.Frag} {H : Hp} {a : Addr} {zs : List Str} {c : Str} {Q : VK} (ha : H a = some (.tup (zs.map V.str))) (q : Q (.bl (!decide (c ∈ zs))) H) : rIn K true (.str c) (.ref a) H Q := by
  obtain ⟨p, xs, e, hs, f1, f2, q2⟩ := in_names (K := K) (c := c) (Q := fun v H' => v = .bl (decide (c ∈ zs)) ∧ H' = H) ha ⟨rfl, rfl⟩
  refine ⟨p, xs, e, hs, f1, f2, ?_⟩
  have e2 : inV (.str c) xs = decide (c ∈ zs) := V.bl.inj q2.1
  show Q (.bl (!inV (.str c) xs)) H
  rw [e2]
  exact q
theorem in_namesB {K : PySem.W.Frag} {b : Bool} {H : Hp} {a : Addr} {zs : List Str} {c : Str} {Q : VK} (ha : Names K b H a zs) (q : Q (.bl (decide (c ∈ zs))) H) : rIn K false (.str c) (.ref a) H Q := by
  refine ⟨a, zs.map V.str, rfl, ?_, rfl, ?_, ?_⟩
  · have := ha.seq
    cases b with
    | true => exact .inl this
    | false => exact .inr this
  · rw [List.all_map]
    exact List.all_eq_true.mpr fun x _ => rfl
  · have e : inV (.str c) (zs.map V.str) = decide (c ∈ zs) := by
      unfold inV
      rw [List.any_map, Bool.eq_iff_iff, List.any_eq_true, decide_eq_true_iff]
      constructor
      · rintro ⟨y, hy, h⟩
        have h : (y == c) = true := h
        rw [← eq_of_beq h]
        exact hy
      · intro h
        exact ⟨c, h, by show (c == c) = true; exact beq_self_eq_true c⟩
    rw [if_neg Bool.false_ne_true, e]
    exact q
theorem pos_id {es : List Ent} {e : Ent} (ok : ∀ e ∈ es, e.Ok) (nd : (es.map Ent.id).Nodup) {z : Str} (h : es.find? (fun e => decide (e.id = z)) = some e) : e.id = z ∧ e ∈ es ∧ z ≠ "" ∧ ∃ k, posS es z = some k ∧ es[k]? = some e := by
  have hid : e.id = z := of_decide_eq_true (List.find?_some (p := fun e : Ent => decide (e.id = z)) h)
  have hm := List.mem_of_find?_eq_some h
  have hz : z ≠ "" := by rw [← hid]; exact id_ne (ok e hm)
  obtain ⟨k, hk, ek⟩ := List.getElem_of_mem hm
  have e1 : es[k]? = some e := by rw [List.getElem?_eq_getElem hk, ek]
  refine ⟨hid, hm, hz, k, ?_, e1⟩
  rw [← hid]
  exact posS_of nd e1 (by rw [hid]; exact hz)
theorem pos_no {es : List Ent} {z : Str} (hz : z ≠ "") (h : es.find? (fun e => decide (e.id = z)) = none) : posS es z = none := by
  unfold posS
  rw [if_neg hz]
  exact posG_no fun e he q => List.find?_eq_none.mp h e he (decide_eq_true q)
theorem find_in {es : List Ent} {p : Ent → Bool} (nd : (es.map Ent.id).Nodup) {z : Str} : (es.filter p).find? (fun e => decide (e.id = z)) = match es.find? (fun e => decide (e.id = z)) with
    | some e => if p e = true then some e else none
    | none => none := by
  cases h : es.find? (fun e => decide (e.id = z)) with
  | none =>
    dsimp only
    rw [List.find?_eq_none]
    exact fun u hu => List.find?_eq_none.mp h u (List.mem_filter.mp hu).1
  | some e =>
    dsimp only
    have hid : e.id = z := of_decide_eq_true (List.find?_some (p := fun e : Ent => decide (e.id = z)) h)
    have hm := List.mem_of_find?_eq_some h
    by_cases hp : p e = true
    · rw [if_pos hp, ← hid]
      exact find_id (nd.sublist (List.filter_sublist.map _)) (List.mem_filter.mpr ⟨hm, hp⟩)
    · rw [if_neg hp, List.find?_eq_none]
      intro u hu hq
      obtain ⟨hu1, hu2⟩ := List.mem_filter.mp hu
      rw [id_inj nd hu1 hm (by rw [of_decide_eq_true hq, hid])] at hu2
      exact hp hu2
/-- a cell read at k, told twice -/
theorem rdAt_bad {es : List Ent} {k : Nat} {d : PyData} (ok : ∀ e ∈ es, e.Ok) (h : wordD 4 false d = false) : readE es k d = some (1, d) := by
  unfold readE
  rw [if_neg fun hr => ?_]
  obtain ⟨c, rfl, hc, _⟩ := rdAt_ok ok hr
  exact absurd (show wordD 4 false (.str c) = true from hc) (by rw [h]; simp)
theorem rdAt_end {es : List Ent} {d : PyData} (h : wordD 4 false d = true) : readE es es.length d = none := by
  unfold readE rdAt
  rw [List.getElem?_eq_none (Nat.le_refl _)]
  exact if_pos h
theorem rdAt_at {es : List Ent} {k : Nat} {e : Ent} {c : Str} (h : es[k]? = some e) : readE es k (.str c) = if decide (c ∈ e.rs) = true then none else some (1, .str c) := by
  have e1 : rdAt es k (.str c) = decide (c ∈ e.rs) := by
    unfold rdAt
    rw [h]
    exact any_strS
  unfold readE
  rw [e1]
theorem posS_end {es : List Ent} : posD es (.str "") = some es.length := by
  show posS es "" = _
  unfold posS
  rw [if_pos rfl]
theorem writeAt_end4 (es : List Ent) : writeAt es es.length = false := by
  unfold writeAt
  rw [List.getElem?_eq_none (Nat.le_refl _)]
theorem posD_not {es : List Ent} {d : PyData} (h : isD "str" d = false) : posD es d = none := by
  cases d with
  | str z => exact absurd h (by simp [isD, tyN])
  | _ => rfl
theorem ixC {K : PySem.W.Frag} {ex : List Addr} {σ : L2.St} {H : Hp} {a : Addr} {xs : List V} {ds : List PyData} {d : PyData} {j : Nat} {i : Int} {Q : VK} (ei : i = (j : Int)) (ha : H a = some (.tup xs)) (hx : RpAll ex H ds xs) (hj : ds[j]? = some d) (q : ∀ v, Rp ex H d v → Q v H) : tC (.int i) σ H fun y H2 => rIxT K (.ref a) y H2 Q := ixD ei ha hx hj q
def spGoalExp : Sp := fun vs H Q _ => ∃ (v u : V) (es : List Ent) (d : PyData) (ex : List Addr), vs = [v, u] ∧ Rp ex H (logD es) v ∧ LogOk es ∧ es.length ≤ 60 ∧ Rp ex H d u ∧ niceD d = true ∧ Live ex H ∧ ∀ y H', Kp [] H H' → ErrV ex H' (goalE es d) y → Q y H'
def rdE (es : List Ent) (gone : List Str) (dr dc : PyData) : Option (Nat × PyData) := match posD (liveB es gone) dr with
  | none => some (0, dr)
  | some k => readE (liveB es gone) k dc
def spReadExp (K : PySem.W.Frag) : Sp := fun vs H Q _ => ∃ (v x y : V) (g : Addr) (b : Bool) (gone : List Str) (es : List Ent) (dr dc : PyData) (ex : List Addr), vs = [v, .ref g, x, y] ∧ Rp ex H (logD es) v ∧ LogOk es ∧ es.length ≤ 60 ∧ Names K b H g gone ∧ Rp ex H dr x ∧ Rp ex H dc y ∧ niceD dc = true ∧ Live ex H ∧ ∀ y' H', Kp [] H H' → ErrV ex H' (rdE es gone dr dc) y' → Q y' H'
section
variable {P : Program} {w : World} {K : PySem.W.Frag} {mg : Str → Option Value} {base : Heap}
theorem ok_goalexp (DLawGoalExpected : Fn K mg "_law_goal_expected" sLawGoalExpected ["book", "goal"]) (DLawIsCell : Fn K mg "_law_is_cell" sLawIsCell ["thing"]) (b_isinstance : mg "isinstance" = none) (b_len : mg "len" = none) (b_str : mg "str" = none) (b_tuple : mg "tuple" = none) (b_dict : mg "dict" = none)
    (GLawIsCell : FnOk P w K mg base CX0 1 DLawIsCell.f DLawIsCell.fd ["thing"] spCellX) :
    FnOk P w K mg base CX0 2 DLawGoalExpected.f DLawGoalExpected.fd ["book", "goal"] spGoalExp := by
  refine DLawGoalExpected.F.ok scLawGoalExpected (fun vs H Q E h => ?_) (fun cdv A outer s H vs Q E hr h => ?_)
  · obtain ⟨v, u, es, d, ex, rfl, _⟩ := h
    rfl
  obtain ⟨v, u, es, d, ex, rfl, rv, ok, h60, rd, nd, lv, q⟩ := h
  have hu := hu_of hr
  have line : (10000 : Nat) < sizeLine := by decide
  have two : 2 ≤ sizeLine := by decide
  refine ⟨_, pss_cons (ps_if (PW.pt (pw_or (pt_not (pt_val (pe_callB (cr_isD (T := "tuple") (by decide)) (by rfl) b_isinstance (by decide +kernel) (pa_cons (pv 1) (pa_cons (pe_bltn (v := .ty "tuple") rfl b_tuple (by rfl) rfl) pa_nil))))) (pw_or1 (pt_cmpR op_ne (pe_callB (lenE K) (by rfl) b_len (by decide +kernel) (pa_cons (pv 1) pa_nil)) pe_int (nomark _)))))
      (pss_one (ps_ret (pe_tup (pa_cons pe_str (pa_cons (pv 1) pa_nil)))))
      pss_nil)
      (pss_cons (ps_set (i := 2) scLawGoalExpected.nd rfl (.inl rfl) (pe_callTy (call_dictP (by rfl)) (by rfl) b_dict (by decide +kernel) (pa_cons (pe_lc (own := [("entry", 3)]) (g := gName 3) (by rfl) scLawGoalExpected.nd (piTupE K (pv 0)) (blkOk_by (N := ["book", "goal", "wide", "entry"]) (sc := defScope sLawGoalExpected) (by decide +kernel)) (fun _ _ _ _ _ => (pg_name (i := 3) scLawGoalExpected.nd rfl (.inl rfl))) (fun _ _ _ _ _ => (pts_one (pt_cmpR op_eq (pe_ix (ixtE K) (pv 3) pe_int (fun _ _ => rfl)) pe_str (nomark _)))) (fun _ _ _ _ _ => (pe_tup (pa_cons (pe_ix (ixtE K) (pv 3) pe_int (fun _ _ => rfl)) (pa_cons (pe_ix (ixtE K) (pv 3) pe_int (fun _ _ => rfl)) pa_nil))))) pa_nil)))
      (pss_cons (ps_if (PW.pt (pw_or (pt_not (pt_val (pe_callB (cr_isD (T := "str") (by decide)) (by rfl) b_isinstance (by decide +kernel) (pa_cons (pe_ix (ixtE K) (pv 1) pe_int (fun _ _ => rfl)) (pa_cons (pe_bltn (v := .ty "str") rfl b_str (by rfl) rfl) pa_nil))))) (pw_or1 (PW.pt (pw_and (pt_cmpR op_ne (pe_ix (ixtE K) (pv 1) pe_int (fun _ _ => rfl)) pe_str (nomark _)) (pw_and1 (pt_cmp (pc_dnotin hu (pe_ix (ixtE K) (pv 1) pe_int (fun _ _ => rfl)) (pv 2)))))))))
      (pss_one (ps_ret (pe_tup (pa_cons pe_str (pa_cons (pe_ix (ixtE K) (pv 1) pe_int (fun _ _ => rfl)) pa_nil)))))
      pss_nil)
      (pss_cons (ps_if (PW.pt (pw_or (pt_not (pt_val (pe_fn DLawIsCell GLawIsCell hr (pa_cons (pe_ix (ixtE K) (pv 1) pe_int (fun _ _ => rfl)) pa_nil)))) (pw_or1 (PW.pt (pw_and (pt_cmpR op_ne (pe_ix (ixtE K) (pv 1) pe_int (fun _ _ => rfl)) pe_str (nomark _)) (pw_and1 (pt_cmpR (notInE K) (pe_ix (ixtE K) (pv 1) pe_int (fun _ _ => rfl)) (pe_dget hu (pv 2) (pe_ix (ixtE K) (pv 1) pe_int (fun _ _ => rfl)) (fun _ _ => rfl)) (by rfl))))))))
      (pss_one (ps_ret (pe_tup (pa_cons pe_str (pa_cons (pe_ix (ixtE K) (pv 1) pe_int (fun _ _ => rfl)) pa_nil)))))
      pss_nil)
      (pss_one (ps_ret pe_non))))), ?_⟩
  obtain ⟨a, xs, rfl, na, ha, hx⟩ := rv
  have hl : es.length = xs.length := by
    have := hx.length
    rwa [List.length_map] at this
  have ans : ∀ {Hx : Hp} {p : Addr} (i : Nat) (dd : PyData) {x : V}, Kp [] H Hx → Hx p = none → goalE es d = some (i, dd) → Rp ex Hx dd x → Q (.ref p) (upd Hx p (.tup [.str (resW i), x])) := fun {Hx p} i dd {x} k np e r => by
    refine q (.ref p) _ (k.trans (Kp.laid np)) ?_
    rw [e]
    exact ⟨p, x, rfl, (lv.kp0 k).fresh np, upd_same, Rp.keep (Kp.laid np) _ _ r⟩
  refine ⟨_, rfl, u, d, ex, rfl, rd, _, rfl, ?_⟩
  cases ht : isD "tuple" d with
  | false => exact iteT (iteT ⟨_, rfl, two, fun p np => ans 0 d Kp.refl np (goalE_not ht) rd⟩)
  | true =>
  cases d with
  | tuple ds =>
    obtain ⟨t, us, rfl, nt, hut, hus⟩ := id rd
    refine iteF ⟨_, rfl, t, us, rfl, .inr (.inl (.inl hut)), rfl, _, rfl, ?_⟩
    have hlen := hus.length
    by_cases h2 : ds.length = 2
    case neg =>
      rw [decide_eq_false (show ¬ V.int (us.length : Nat) = V.int 2 from fun h => by have := V.int.inj h; omega)]
      exact iteT ⟨_, rfl, two, fun p np => ans 0 _ Kp.refl np (goalE_len h2) rd⟩
    match ds, h2 with
    | [r, c], _ =>
    rw [show (!decide (V.int (us.length : Nat) = V.int 2)) = false by rw [← hlen]; rfl]
    have nds : niceD r = true ∧ niceD c = true := by simpa [niceD, niceAll] using nd
    have eg : goalE es (.tuple [r, c]) = match posD es r with | none => some (0, r) | some k => if writeAt es k = true then some (0, r) else readE es k c := rfl
    refine iteF ⟨_, rfl, a, rfl, ⟨xs, .inl (.inl ha)⟩, fun C nC => ?_⟩
    refine lc_entsL (J := Itt K a) (gs := es) (ex := ex) (fun e => .tuple [.str e.id, .tuple (e.rs.map .str)]) (fun e => !e.isW) (walks_tup ha nC) nC hx (by omega) (fun e x H2 Q2 hm k2 r2 q2 => ?_) (fun e x H2 Q2 hm hp k2 c2 r2 q2 => ?_) (fun Hn ys kn en rn => ?_) fun x => wipe_one _ _ _
    · obtain ⟨d0, ed0, hd0⟩ := ent_kind e
      refine ⟨_, rfl, c_of (ent_ix r2 ed0 hd0 rfl fun vk rk => ?_)⟩
      obtain rfl : vk = .str (if e.isW then "write" else "query") := rk
      refine ⟨rfl, _, rfl, ?_⟩
      rw [kind_q4]
      exact q2 H2 Kp.refl
    · obtain ⟨d1, ed1, hd1, hd2⟩ := ent_reads e
      refine ⟨_, rfl, c_of (ent_ix r2 ed1 hd1 rfl fun vi ri => ?_)⟩
      obtain rfl : vi = .str e.id := ri
      exact ⟨_, rfl, c_of (ent_ix r2 ed1 hd2 rfl fun v2 rv2 => ⟨two, fun T nT => q2 (.ref T) _ (Kp.laid nT) (pair_in nT c2 (lv.kp0 (Kp.drop k2 nC)) rv2)⟩)⟩
    have kn1 : Kp [] H Hn := Kp.drop kn nC
    have ndf : ((es.filter fun e => !e.isW).map Ent.id).Nodup := ok.nd.sublist (List.filter_sublist.map _)
    obtain ⟨ps, kvs, hSq, hPd, hmk⟩ := byName_get K ndf en rn
    refine ⟨C, ps, kvs, rfl, hSq, hPd, fun PD nPD => ?_⟩
    have k2 : Kp [] Hn (upd Hn PD (.dK (mergeK [] kvs))) := Kp.laid nPD
    have bn := hmk PD nPD
    generalize upd Hn PD (.dK (mergeK [] kvs)) = H2 at k2 bn ⊢
    have kH2 := kn1.trans k2
    have hut2 := kH2 _ _ (by simp) hut
    have hus2 := RpAll.keep (kH2.mono (ex' := ex) (by simp)) _ _ hus
    refine ⟨_, rfl, ixC (j := 0) rfl hut2 hus2 rfl fun v0 r0 => ⟨v0, r, ex, rfl, r0, _, rfl, ?_⟩⟩
    cases hs : isD "str" r with
    | false => exact iteT (iteT ⟨_, rfl, ixC (j := 0) rfl hut2 hus2 rfl fun v1 r1 => ⟨two, fun p np => ans 0 r kH2 np (by rw [eg, posD_not hs]) r1⟩⟩)
    | true =>
    obtain ⟨z, rfl⟩ := str_of_isD hs
    refine iteF ⟨_, rfl, ixC (j := 0) rfl hut2 hus2 rfl fun v1 r1 => ?_⟩
    obtain rfl : v1 = .str z := r1
    refine ⟨rfl, _, rfl, ?_⟩
    by_cases hz : z = ""
    · subst hz
      rw [show (!decide (V.str "" = V.str "")) = false by simp]
      refine iteF (iteF ⟨_, rfl, ixC (j := 1) rfl hut2 hus2 rfl fun vc rc => ⟨vc, c, ex, rfl, rc, nds.2, fun H4 k4 => ⟨_, rfl, ?_⟩⟩⟩)
      have kH4 := kH2.trans k4
      have hut4 := kH4 _ _ (by simp) hut
      have hus4 := RpAll.keep (kH4.mono (ex' := ex) (by simp)) _ _ hus
      have eg2 : goalE es (.tuple [.str "", c]) = readE es es.length c := by rw [eg, posS_end]; dsimp only; rw [writeAt_end4]; rfl
      cases hc : wordD 4 false c with
      | false => exact iteT (iteT ⟨_, rfl, ixC (j := 1) rfl hut4 hus4 rfl fun v3 r3 => ⟨two, fun p np => ans 1 c kH4 np (by rw [eg2]; exact rdAt_bad ok.ok hc) r3⟩⟩)
      | true =>
        refine iteF ⟨_, rfl, ixC (j := 0) rfl hut4 hus4 rfl fun v3 r3 => ?_⟩
        obtain rfl : v3 = .str "" := r3
        refine ⟨rfl, _, rfl, ?_⟩
        rw [show (!decide (V.str "" = V.str "")) = false by simp]
        refine iteF (iteF (q .non H4 kH4 ?_))
        rw [eg2, rdAt_end hc]
        rfl
    · have hnz : (!decide (V.str z = V.str "")) = true := by rw [decide_eq_false (fun h => hz (V.str.inj h))]; rfl
      rw [hnz]
      refine iteT ⟨_, rfl, ixC (j := 0) rfl hut2 hus2 rfl fun v1 r1 => ?_⟩
      obtain rfl : v1 = .str z := r1
      have hfi := find_in (p := fun e => !e.isW) ok.nd (z := z)
      cases hf : es.find? (fun e => decide (e.id = z)) with
      | none =>
        rw [hf] at hfi
        exact ⟨_, rfl, PD, _, rfl, bn.no hfi, _, rfl, iteT ⟨_, rfl, ixC (j := 0) rfl hut2 hus2 rfl fun v3 r3 => ⟨two, fun p np => ans 0 (.str z) kH2 np (by rw [eg, show posD es (.str z) = none from pos_no hz hf]) r3⟩⟩⟩
      | some e =>
        rw [hf] at hfi
        dsimp only at hfi
        obtain ⟨hid, hm, _, k, hk, ek⟩ := pos_id ok.ok ok.nd hf
        have hpD : posD es (.str z) = some k := hk
        have hwA : writeAt es k = e.isW := by unfold writeAt; rw [ek]
        cases hw : e.isW with
        | true =>
          rw [hw, if_neg (by simp)] at hfi
          exact ⟨_, rfl, PD, _, rfl, bn.no hfi, _, rfl, iteT ⟨_, rfl, ixC (j := 0) rfl hut2 hus2 rfl fun v3 r3 => ⟨two, fun p np => ans 0 (.str z) kH2 np (by rw [eg, hpD]; dsimp only; rw [hwA, hw]; rfl) r3⟩⟩⟩
        | false =>
          rw [hw, if_pos (by simp)] at hfi
          obtain ⟨ve, ge, re⟩ := bn.yes hfi
          have eg2 : goalE es (.tuple [.str z, c]) = readE es k c := by rw [eg, hpD]; dsimp only; rw [hwA, hw]; rfl
          refine ⟨_, rfl, PD, _, rfl, ge, _, rfl, iteF ⟨_, rfl, ixC (j := 1) rfl hut2 hus2 rfl fun vc rc => ⟨vc, c, ex, rfl, rc, nds.2, fun H4 k4 => ⟨_, rfl, ?_⟩⟩⟩⟩
          have kH4 := kH2.trans k4
          have hut4 := kH4 _ _ (by simp) hut
          have hus4 := RpAll.keep (kH4.mono (ex' := ex) (by simp)) _ _ hus
          cases hc : wordD 4 false c with
          | false => exact iteT (iteT ⟨_, rfl, ixC (j := 1) rfl hut4 hus4 rfl fun v3 r3 => ⟨two, fun p np => ans 1 c kH4 np (by rw [eg2]; exact rdAt_bad ok.ok hc) r3⟩⟩)
          | true =>
            cases c with
            | str cc =>
              refine iteF ⟨_, rfl, ixC (j := 0) rfl hut4 hus4 rfl fun v3 r3 => ?_⟩
              obtain rfl : v3 = .str z := r3
              refine ⟨rfl, _, rfl, ?_⟩
              rw [hnz]
              refine iteT ⟨_, rfl, ixC (j := 1) rfl hut4 hus4 rfl fun v4 r4 => ?_⟩
              obtain rfl : v4 = .str cc := r4
              refine ⟨_, rfl, _, rfl, ixC (j := 0) rfl hut4 hus4 rfl fun v5 r5 => ?_⟩
              obtain rfl : v5 = .str z := r5
              obtain ⟨ve', ge', re'⟩ := (bn.keep k4).yes hfi
              obtain ⟨ra, cs, rfl, nra, hra, hcs⟩ := re'
              obtain rfl := strs_of hcs
              refine ⟨PD, _, rfl, ge', notin_names4 hra ⟨_, rfl, ?_⟩⟩
              have eg3 := rdAt_at (c := cc) ek
              by_cases hin : cc ∈ e.rs
              · rw [decide_eq_true hin] at eg3 ⊢
                refine iteF (q .non H4 kH4 ?_)
                rw [eg2, eg3]
                rfl
              · rw [decide_eq_false hin] at eg3 ⊢
                exact iteT ⟨_, rfl, ixC (j := 1) rfl hut4 hus4 rfl fun v6 r6 => ⟨two, fun p np => ans 1 (.str cc) kH4 np (by rw [eg2, eg3]; rfl) r6⟩⟩
            | _ => cases hc
  | _ => simp [isD, tyN] at ht
end
end NV
/-! Exp4d -/
set_option Elab.async false
set_option linter.all false
set_option maxRecDepth 100000
set_option maxHeartbeats 1000000
/-! what the law of refusals expects of a reader and a cell -/
namespace NV
open PySem PySem.Spec PyProof.Rows L2
open C8 (pss_cut pe_gc)
section
variable {P : Program} {w : World} {K : PySem.W.Frag} {mg : Str → Option Value} {base : Heap}
theorem ok_readexp (DLawReadExpected : Fn K mg "_law_read_expected" sLawReadExpected ["book", "gone", "reader", "spot"]) (DLawIsCell : Fn K mg "_law_is_cell" sLawIsCell ["thing"]) (b_isinstance : mg "isinstance" = none) (b_str : mg "str" = none) (b_dict : mg "dict" = none)
    (GLawIsCell : FnOk P w K mg base CX0 1 DLawIsCell.f DLawIsCell.fd ["thing"] spCellX) :
    FnOk P w K mg base CX0 2 DLawReadExpected.f DLawReadExpected.fd ["book", "gone", "reader", "spot"] (spReadExp K) := by
  refine DLawReadExpected.F.ok scLawReadExpected (fun vs H Q E h => ?_) (fun cdv A outer s H vs Q E hr h => ?_)
  · obtain ⟨v, x, y, g, b, gone, es, dr, dc, ex, rfl, _⟩ := h
    rfl
  obtain ⟨v, x, y, g, b, gone, es, r, c, ex, rfl, rv, ok, h60, nm, rr, rc, nc, lv, q⟩ := h
  have hu := hu_of hr
  have line : (10000 : Nat) < sizeLine := by decide
  have two : 2 ≤ sizeLine := by decide
  refine ⟨_, pss_cons (ps_set (i := 4) scLawReadExpected.nd rfl (.inl rfl) (pe_callTy (call_dictP (by rfl)) (by rfl) b_dict (by decide +kernel) (pa_cons (pe_lc (own := [("entry", 5)]) (g := gName 5) (tt := tYes) (by rfl) scLawReadExpected.nd (piTupE K (pv 0)) (blkOk_by (N := ["book", "gone", "reader", "spot", "table", "entry"]) (sc := defScope sLawReadExpected) (by decide +kernel)) (fun _ _ _ _ _ => (pg_name (i := 5) scLawReadExpected.nd rfl (.inl rfl))) (fun _ _ _ _ _ => pts_nil) (fun _ _ _ _ _ => (pe_tup (pa_cons (pe_ix (ixtE K) (pv 5) pe_int (fun _ _ => rfl)) (pa_cons (pe_ix (ixtE K) (pv 5) pe_int (fun _ _ => rfl)) pa_nil))))) pa_nil)))
      (pss_cons (ps_if (PW.pt (pw_or (pt_not (pt_val (pe_callB (cr_isD (T := "str") (by decide)) (by rfl) b_isinstance (by decide +kernel) (pa_cons (pv 2) (pa_cons (pe_bltn (v := .ty "str") rfl b_str (by rfl) rfl) pa_nil))))) (pw_or1 (PW.pt (pw_and (pt_cmpR op_ne (pv 2) pe_str (nomark _)) (pw_and1 (PW.pt (pw_or (pt_cmp (pc_dnotin hu (pv 2) (pv 4))) (pw_or1 (pt_cmpR (inE K) (pv 2) (pv 1) (by rfl)))))))))))
      (pss_one (ps_ret (pe_tup (pa_cons pe_str (pa_cons (pv 2) pa_nil)))))
      pss_nil)
      (pss_cons (ps_if (PW.pt (pw_or (pt_not (pt_val (pe_fn DLawIsCell GLawIsCell hr (pa_cons (pv 3) pa_nil)))) (pw_or1 (PW.pt (pw_and (pt_cmpR op_ne (pv 2) pe_str (nomark _)) (pw_and1 (pt_cmpR (notInE K) (pv 3) (pe_dget hu (pv 4) (pv 2) (fun _ _ => rfl)) (by rfl))))))))
      (pss_one (ps_ret (pe_tup (pa_cons pe_str (pa_cons (pv 3) pa_nil)))))
      pss_nil)
      (pss_one (ps_ret pe_non)))), ?_⟩
  obtain ⟨a, xs, rfl, na, ha, hx⟩ := rv
  have hl : es.length = xs.length := by
    have := hx.length
    rwa [List.length_map] at this
  have ans : ∀ {Hx : Hp} {p : Addr} (i : Nat) (dd : PyData) {x : V}, Kp [] H Hx → Hx p = none → rdE es gone r c = some (i, dd) → Rp ex Hx dd x → Q (.ref p) (upd Hx p (.tup [.str (resW i), x])) := fun {Hx p} i dd {x} k np e r => by
    refine q (.ref p) _ (k.trans (Kp.laid np)) ?_
    rw [e]
    exact ⟨p, x, rfl, (lv.kp0 k).fresh np, upd_same, Rp.keep (Kp.laid np) _ _ r⟩
  refine ⟨_, rfl, a, rfl, ⟨xs, .inl (.inl ha)⟩, fun C nC => ?_⟩
  refine lc_entsL (J := Itt K a) (gs := es) (ex := ex) (fun e => .tuple [.str e.id, .tuple (e.rs.map .str)]) (fun e => true) (walks_tup ha nC) nC hx (by omega) (fun e x H2 Q2 hm k2 r2 q2 => q2 H2 Kp.refl) (fun e x H2 Q2 hm hp k2 c2 r2 q2 => ?_) (fun Hn ys kn en rn => ?_) fun x => wipe_one _ _ _
  · obtain ⟨d1, ed1, hd1, hd2⟩ := ent_reads e
    refine ⟨_, rfl, c_of (ent_ix r2 ed1 hd1 rfl fun vi ri => ?_)⟩
    obtain rfl : vi = .str e.id := ri
    exact ⟨_, rfl, c_of (ent_ix r2 ed1 hd2 rfl fun v2 rv2 => ⟨two, fun T nT => q2 (.ref T) _ (Kp.laid nT) (pair_in nT c2 (lv.kp0 (Kp.drop k2 nC)) rv2)⟩)⟩
  have h1 : es.filter (fun _ => true) = es := by simp
  rw [h1] at rn
  have kn1 : Kp [] H Hn := Kp.drop kn nC
  obtain ⟨ps, kvs, hSq, hPd, hmk⟩ := byName_get K ok.nd en rn
  refine ⟨C, ps, kvs, rfl, hSq, hPd, fun PD nPD => ?_⟩
  have k2 : Kp [] Hn (upd Hn PD (.dK (mergeK [] kvs))) := Kp.laid nPD
  have bn := hmk PD nPD
  generalize upd Hn PD (.dK (mergeK [] kvs)) = H2 at k2 bn ⊢
  have kH2 := kn1.trans k2
  have nm2 := nm.keep0 kH2
  have rr2 := Rp.keep (kH2.mono (ex' := ex) (by simp)) _ _ rr
  have rc2 := Rp.keep (kH2.mono (ex' := ex) (by simp)) _ _ rc
  refine ⟨_, rfl, x, r, ex, rfl, rr2, _, rfl, ?_⟩
  cases hs : isD "str" r with
  | false => exact iteT (iteT ⟨_, rfl, two, fun p np => ans 0 r kH2 np (by unfold rdE; rw [posD_not hs]) rr2⟩)
  | true =>
  obtain ⟨z, rfl⟩ := str_of_isD hs
  obtain rfl : x = .str z := rr
  refine iteF ⟨_, rfl, rfl, _, rfl, ?_⟩
  by_cases hz : z = ""
  · subst hz
    rw [show (!decide (V.str "" = V.str "")) = false by simp]
    refine iteF (iteF ⟨_, rfl, y, c, ex, rfl, rc2, nc, fun H4 k4 => ⟨_, rfl, ?_⟩⟩)
    have kH4 := kH2.trans k4
    have rc4 := Rp.keep (k4.mono (ex' := ex) (by simp)) _ _ rc2
    have eg2 : rdE es gone (.str "") c = readE (liveB es gone) (liveB es gone).length c := by unfold rdE; rw [posS_end]
    cases hc : wordD 4 false c with
    | false => exact iteT (iteT ⟨_, rfl, two, fun p np => ans 1 c kH4 np (by rw [eg2]; exact rdAt_bad (liveB_ok ok.ok) hc) rc4⟩)
    | true =>
      refine iteF ⟨_, rfl, rfl, _, rfl, ?_⟩
      rw [show (!decide (V.str "" = V.str "")) = false by simp]
      refine iteF (iteF (q .non H4 kH4 ?_))
      rw [eg2, rdAt_end hc]
      rfl
  · have hnz : (!decide (V.str z = V.str "")) = true := by rw [decide_eq_false (fun h => hz (V.str.inj h))]; rfl
    rw [hnz]
    refine iteT ?_
    have hfi : (liveB es gone).find? (fun e => decide (e.id = z)) = _ := find_in (p := fun e => decide (e.id ∉ gone)) ok.nd (z := z)
    have bad : (liveB es gone).find? (fun e => decide (e.id = z)) = none → rdE es gone (.str z) c = some (0, .str z) := fun h => by
      unfold rdE
      rw [show posD (liveB es gone) (.str z) = none from pos_no hz h]
    cases hf : es.find? (fun e => decide (e.id = z)) with
    | none =>
      rw [hf] at hfi
      exact ⟨_, rfl, _, rfl, PD, _, rfl, bn.no hf, _, rfl, iteT (iteT ⟨_, rfl, two, fun p np => ans 0 (.str z) kH2 np (bad hfi) rfl⟩)⟩
    | some e =>
      rw [hf] at hfi
      dsimp only at hfi
      obtain ⟨hid, hm, _, _⟩ := pos_id ok.ok ok.nd hf
      obtain ⟨ve, ge, re⟩ := bn.yes hf
      refine ⟨_, rfl, _, rfl, PD, _, rfl, ge, _, rfl, iteF ⟨_, rfl, _, rfl, in_namesB nm2 ⟨_, rfl, ?_⟩⟩⟩
      by_cases hg : z ∈ gone
      · rw [hid, decide_eq_false (fun h => h hg), if_neg (by simp)] at hfi
        rw [decide_eq_true hg]
        exact iteT ⟨_, rfl, two, fun p np => ans 0 (.str z) kH2 np (bad hfi) rfl⟩
      · rw [hid, decide_eq_true hg, if_pos rfl] at hfi
        rw [decide_eq_false hg]
        obtain ⟨_, _, _, k, hk, ek⟩ := pos_id (liveB_ok ok.ok) (liveB_nd ok.nd) hfi
        have eg2 : rdE es gone (.str z) c = readE (liveB es gone) k c := by unfold rdE; rw [show posD (liveB es gone) (.str z) = some k from hk]
        refine iteF ⟨_, rfl, y, c, ex, rfl, rc2, nc, fun H4 k4 => ⟨_, rfl, ?_⟩⟩
        have kH4 := kH2.trans k4
        have rc4 := Rp.keep (k4.mono (ex' := ex) (by simp)) _ _ rc2
        cases hc : wordD 4 false c with
        | false => exact iteT (iteT ⟨_, rfl, two, fun p np => ans 1 c kH4 np (by rw [eg2]; exact rdAt_bad (liveB_ok ok.ok) hc) rc4⟩)
        | true =>
          cases c with
          | str cc =>
            obtain rfl : y = .str cc := rc
            refine iteF ⟨_, rfl, rfl, _, rfl, ?_⟩
            rw [hnz]
            obtain ⟨ve', ge', re'⟩ := (bn.keep k4).yes hf
            obtain ⟨ra, cs, rfl, nra, hra, hcs⟩ := re'
            obtain rfl := strs_of hcs
            refine iteT ⟨_, rfl, _, rfl, _, rfl, PD, _, rfl, ge', notin_names4 hra ⟨_, rfl, ?_⟩⟩
            have eg3 := rdAt_at (c := cc) ek
            by_cases hin : cc ∈ e.rs
            · rw [decide_eq_true hin] at eg3 ⊢
              refine iteF (q .non H4 kH4 ?_)
              rw [eg2, eg3]
              rfl
            · rw [decide_eq_false hin] at eg3 ⊢
              exact iteT ⟨_, rfl, two, fun p np => ans 1 (.str cc) kH4 np (by rw [eg2, eg3]; rfl) rfl⟩
          | _ => cases hc
end
end NV
/-! C06b -/
set_option Elab.async false
set_option linter.all false
set_option maxRecDepth 100000
set_option maxHeartbeats 1000000
/-! a pick out of several texts and something odd -/
namespace NV
open PySem PySem.Spec PyProof.Rows L2
section
variable {K : PySem.W.Frag} {σ : L2.St} {H : Hp} {Q : VK} {D : Dr} {n i o : Nat} {m : Int} {L oA : Addr} {zs : List Str} {oxs : List V}
theorem rep_mem {zs : List Str} {k : Nat} {y : V} (h : y ∈ (List.replicate k (zs.map V.str)).flatten) : ∃ z ∈ zs, y = .str z := by
  obtain ⟨l, hl, hy⟩ := List.mem_flatten.mp h
  rw [(List.mem_replicate.mp hl).2] at hy
  obtain ⟨z, hz, e⟩ := List.mem_map.mp hy
  exact ⟨z, hz, e.symm⟩
theorem rep_len (k : Nat) (xs : List V) : (List.replicate k xs).flatten.length = k * xs.length := by
  induction k with
  | zero => simp
  | succ k ih => rw [List.replicate_succ, List.flatten_cons, List.length_append, ih, Nat.succ_mul]; omega
theorem pickmix (s1 : σ[1]? = some (some (.ref D.d))) (si : σ[i]? = some (some (.ref L))) (so : σ[o]? = some (some (.ref oA))) (hL : H L = some (.lst (zs.map V.str))) (hz : ∀ z ∈ zs, VOk (.str z)) (hzl : zs.length ≤ 60) (ho : H oA = some (.lst oxs)) (ol : oxs.length = 9) (oa : oA ∉ D.ex) (od : ∀ y ∈ oxs, Drawn D.ex H y) (m0 : 0 ≤ m) (m1 : m ≤ 4) (dr : DrAt D (n + 2) H)
    (q : ∀ y H', Drawn D.ex H' y → Kp D.ex H H' → DrAt D n H' → Q y H') :
    tCall (spPick K) [] (fun _ _ _ => False) (tCons (tVar 1) (tCons (tOp rCat (tOp rRep (tVar i) (tC (.int m))) (tLst (tCons (tCall (spPick K) [] (fun _ _ _ => False) (tCons (tVar 1) (tCons (tVar o) tNil))) tNil))) tNil)) σ H Q := by
  have line : (100000 : Nat) < sizeLine := by decide
  have ml : m.toNat ≤ 4 := by omega
  have pr : (zs.map V.str).length * m.toNat ≤ 240 := by
    rw [List.length_map]
    exact Nat.mul_le_mul hzl ml
  refine ⟨_, s1, _, si, L, m, _, rfl, rfl, hL, by omega, by omega, by omega, fun P1 n1 => ?_⟩
  have k1 : Kp [] H (upd H P1 (.lst (List.replicate m.toNat (zs.map V.str)).flatten)) := Kp.laid n1
  have h1 : (upd H P1 (.lst (List.replicate m.toNat (zs.map V.str)).flatten)) P1 = some (.lst (List.replicate m.toNat (zs.map V.str)).flatten) := upd_same
  have P1D := dr.fresh n1
  generalize upd H P1 (.lst (List.replicate m.toNat (zs.map V.str)).flatten) = H1 at k1 h1 ⊢
  have d1 := dr.keep k1
  refine ⟨_, s1, _, so, D, n + 1, oA, oxs, rfl, SqL.of (k1 _ _ (by simp) ho), by omega, by omega, oa, d1, fun j y1 H2 hy1 k2 d2 => ?_⟩
  refine ⟨by show 1 ≤ sizeLine; omega, fun P2 n2 => ?_⟩
  have h2 := k2 _ _ (Dr.sub P1D) h1
  have k3 : Kp [] H2 (upd H2 P2 (.lst [y1])) := Kp.laid n2
  have h3 : (upd H2 P2 (.lst [y1])) P2 = some (.lst [y1]) := upd_same
  have h4 := k3 _ _ (by simp) h2
  have fl : (List.replicate m.toNat (zs.map V.str)).flatten.length ≤ 240 := by rw [rep_len, Nat.mul_comm]; exact pr
  have d3 := d2.keep k3
  generalize upd H2 P2 (.lst [y1]) = H3 at k3 h3 h4 d3 ⊢
  refine ⟨P1, P2, _, _, rfl, rfl, h4, h3, by show _ + 1 ≤ sizeLine; omega, fun P3 n3 => ?_⟩
  have k4 : Kp [] H3 (upd H3 P3 (.lst ((List.replicate m.toNat (zs.map V.str)).flatten ++ [y1]))) := Kp.laid n3
  have P3D := d3.fresh n3
  have kall : Kp D.ex H (upd H3 P3 (.lst ((List.replicate m.toNat (zs.map V.str)).flatten ++ [y1]))) := (k1.mono (by simp)).trans (k2.trans ((k3.mono (by simp)).trans (k4.mono (by simp))))
  refine ⟨D, n, P3, _, rfl, SqL.of upd_same, by rw [List.length_append]; simp, by rw [List.length_append]; simp only [List.length_singleton]; omega, Dr.sub P3D, (d3.keep k4).less (by omega), fun j2 y2 H4 hy2 k5 d5 => ?_⟩
  refine q y2 H4 ?_ (kall.trans k5) d5
  rcases List.mem_append.mp (List.mem_of_getElem? hy2) with z | z
  · obtain ⟨w, hw, rfl⟩ := rep_mem z
    exact ⟨.str w, rfl, hz w hw⟩
  · rw [List.mem_singleton.mp z]
    exact (od y1 (List.mem_of_getElem? hy1)).keep (kall.trans k5)
theorem pickmix2 (s1 : σ[1]? = some (some (.ref D.d))) (si : σ[i]? = some (some (.ref L))) (so : σ[o]? = some (some (.ref oA))) (hL : H L = some (.lst (zs.map V.str))) (hz : ∀ z ∈ zs, VOk (.str z)) (hzl : zs.length ≤ 60) (ho : H oA = some (.lst oxs)) (ol : oxs.length = 9) (oa : oA ∉ D.ex) (od : ∀ y ∈ oxs, Drawn D.ex H y) (m0 : 0 ≤ m) (m1 : m ≤ 4) (dr : DrAt D (n + 2) H)
    (q : ∀ y H', Drawn D.ex H' y → Kp D.ex H H' → DrAt D n H' → Q y H') :
    tCall (spPick K) [] (fun _ _ _ => False) (tCons (tVar 1) (tCons (tOp rCat (tOp rCat (tOp rRep (tVar i) (tC (.int m))) (tOp rRep (tLst (tCons (tC (.str "")) tNil)) (tCB (fun xs H Q => ∃ p ys, xs = [V.ref p] ∧ (SqL K H p ys ∨ SqT K H p ys) ∧ Q (V.int ys.length) H) (tCons (tVar i) tNil)))) (tLst (tCons (tCall (spPick K) [] (fun _ _ _ => False) (tCons (tVar 1) (tCons (tVar o) tNil))) tNil))) tNil)) σ H Q := by
  have line : (100000 : Nat) < sizeLine := by decide
  have ml : m.toNat ≤ 4 := by omega
  have pr : (zs.map V.str).length * m.toNat ≤ 240 := by
    rw [List.length_map]
    exact Nat.mul_le_mul hzl ml
  have zl : (zs.map V.str).length ≤ 60 := by rw [List.length_map]; exact hzl
  refine ⟨_, s1, _, si, L, m, _, rfl, rfl, hL, by omega, by omega, by omega, fun P1 n1 => ?_⟩
  have k1 : Kp [] H (upd H P1 (.lst (List.replicate m.toNat (zs.map V.str)).flatten)) := Kp.laid n1
  have h1 : (upd H P1 (.lst (List.replicate m.toNat (zs.map V.str)).flatten)) P1 = some (.lst (List.replicate m.toNat (zs.map V.str)).flatten) := upd_same
  have d1 := dr.keep k1
  generalize upd H P1 (.lst (List.replicate m.toNat (zs.map V.str)).flatten) = H1 at k1 h1 d1 ⊢
  refine ⟨by show 1 ≤ sizeLine; omega, fun E1 e1 => ?_⟩
  have k2 : Kp [] H1 (upd H1 E1 (.lst [V.str ""])) := Kp.laid e1
  have h2 : (upd H1 E1 (.lst [V.str ""])) E1 = some (.lst ((("" : Str) :: []).map V.str)) := upd_same
  have d2 := d1.keep k2
  generalize upd H1 E1 (.lst [V.str ""]) = H2 at k2 h2 d2 ⊢
  have k12 := k1.trans k2
  refine ⟨_, si, L, _, rfl, .inl (.inl (.inl (k12 _ _ (by simp) hL))), E1, ((zs.map V.str).length : Int), _, rfl, rfl, h2, by omega, by omega, by simp; omega, fun P4 n4 => ?_⟩
  have k3 : Kp [] H2 (upd H2 P4 (.lst (List.replicate ((zs.map V.str).length : Int).toNat ((("" : Str) :: []).map V.str)).flatten)) := Kp.laid n4
  have h3 : (upd H2 P4 (.lst (List.replicate ((zs.map V.str).length : Int).toNat ((("" : Str) :: []).map V.str)).flatten)) P4 = some (.lst (List.replicate ((zs.map V.str).length : Int).toNat ((("" : Str) :: []).map V.str)).flatten) := upd_same
  have fl : (List.replicate m.toNat (zs.map V.str)).flatten.length ≤ 240 := by rw [rep_len, Nat.mul_comm]; exact pr
  have fl2 : (List.replicate ((zs.map V.str).length : Int).toNat ((("" : Str) :: []).map V.str)).flatten.length ≤ 60 := by rw [rep_len]; simp only [List.map_cons, List.map_nil, List.length_cons, List.length_nil, Int.toNat_natCast]; omega
  have d3 := d2.keep k3
  generalize upd H2 P4 (.lst (List.replicate ((zs.map V.str).length : Int).toNat ((("" : Str) :: []).map V.str)).flatten) = H3 at k3 h3 d3 ⊢
  refine ⟨P1, P4, _, _, rfl, rfl, (k2.trans k3) _ _ (by simp) h1, h3, by omega, fun P5 n5 => ?_⟩
  generalize hcat : (List.replicate m.toNat (zs.map V.str)).flatten ++ (List.replicate ((zs.map V.str).length : Int).toNat ((("" : Str) :: []).map V.str)).flatten = cat at n5 ⊢
  have cl : cat.length ≤ 300 := by rw [← hcat, List.length_append]; omega
  have k4 : Kp [] H3 (upd H3 P5 (.lst cat)) := Kp.laid n5
  have h4 : (upd H3 P5 (.lst cat)) P5 = some (.lst cat) := upd_same
  have P5D := d3.fresh n5
  have d4 := d3.keep k4
  generalize upd H3 P5 (.lst cat) = H4 at k4 h4 d4 ⊢
  have k14 := k12.trans (k3.trans k4)
  refine ⟨_, s1, _, so, D, n + 1, oA, oxs, rfl, SqL.of (k14 _ _ (by simp) ho), by omega, by omega, oa, d4, fun j y1 H5 hy1 k5 d5 => ?_⟩
  refine ⟨by show 1 ≤ sizeLine; omega, fun P2 n2 => ?_⟩
  have h5 := k5 _ _ (Dr.sub P5D) h4
  have k6 : Kp [] H5 (upd H5 P2 (.lst [y1])) := Kp.laid n2
  have h6 : (upd H5 P2 (.lst [y1])) P2 = some (.lst [y1]) := upd_same
  have h7 := k6 _ _ (by simp) h5
  have d6 := d5.keep k6
  generalize upd H5 P2 (.lst [y1]) = H6 at k6 h6 h7 d6 ⊢
  refine ⟨P5, P2, _, _, rfl, rfl, h7, h6, by show _ + 1 ≤ sizeLine; omega, fun P3 n3 => ?_⟩
  have k7 : Kp [] H6 (upd H6 P3 (.lst (cat ++ [y1]))) := Kp.laid n3
  have P3D := d6.fresh n3
  have kall : Kp D.ex H (upd H6 P3 (.lst (cat ++ [y1]))) := (k14.mono (by simp)).trans (k5.trans ((k6.mono (by simp)).trans (k7.mono (by simp))))
  refine ⟨D, n, P3, _, rfl, SqL.of upd_same, by rw [List.length_append]; simp, by rw [List.length_append]; simp only [List.length_singleton]; omega, Dr.sub P3D, (d6.keep k7).less (by omega), fun j2 y2 H7 hy2 k8 d8 => ?_⟩
  refine q y2 H7 ?_ (kall.trans k8) d8
  rcases List.mem_append.mp (List.mem_of_getElem? hy2) with z | z
  · rw [← hcat] at z
    rcases List.mem_append.mp z with z | z
    · obtain ⟨w, hw, rfl⟩ := rep_mem z
      exact ⟨.str w, rfl, hz w hw⟩
    · obtain ⟨w, hw, rfl⟩ := rep_mem z
      rw [List.mem_singleton.mp hw]
      exact ⟨.str "", rfl, str_vok (by decide) (by decide +kernel)⟩
  · rw [List.mem_singleton.mp z]
    exact (od y1 (List.mem_of_getElem? hy1)).keep (kall.trans k8)
end
end NV
/-! Goal4 -/
set_option Elab.async false
set_option linter.all false
set_option maxRecDepth 100000
set_option maxHeartbeats 1000000
/-! the law's own draw of a target -/
namespace NV
open PySem PySem.Spec PyProof.Rows L2
open C8 (pss_cut pe_gc)
abbrev sLawGoal : Stmt := topS 61
theorem scLawGoal : FnScope ["draw", "book", "spots", "odd", "reader", "spot", "entry"] ["draw", "book", "spots"] (defScope sLawGoal) := ⟨rfl, rfl, rfl, by decide +kernel, rfl, by decide +kernel, by decide +kernel⟩
/-- drawn data -/
def BOk (d : PyData) : Prop := niceD d = true ∧ d.depth ≤ 4 ∧ vol d ≤ 2000
def BOkV (ex : List Addr) (H : Hp) (y : V) : Prop := ∃ d, Rp ex H d y ∧ BOk d
theorem BOkV.keep {ex : List Addr} {H H' : Hp} {y : V} (h : BOkV ex H y) (k : Kp ex H H') : BOkV ex H' y := let ⟨d, r, o⟩ := h; ⟨d, Rp.keep k _ _ r, o⟩
theorem VOk.b {d : PyData} (h : VOk d) : BOk d := ⟨h.1, by have := h.2.1; omega, by have := h.2.2; omega⟩
theorem bok_str {ex : List Addr} {H : Hp} {z : Str} (h : z.length ≤ 9) (h2 : PyData.strOk z = true) : BOkV ex H (.str z) := ⟨.str z, rfl, (str_vok h h2).b⟩
theorem bok_non {ex : List Addr} {H : Hp} : BOkV ex H .non := ⟨.none, rfl, rfl, by simp only [PyData.depth]; omega, by simp only [vol]; omega⟩
theorem bok_int {ex : List Addr} {H : Hp} {i : Int} (h : niceD (.int i) = true := by decide +kernel) (h2 : vol (.int i) ≤ 2000 := by decide +kernel) : BOkV ex H (.int i) := ⟨.int i, rfl, h, by simp only [PyData.depth]; omega, h2⟩
theorem bok_bl {ex : List Addr} {H : Hp} {b : Bool} : BOkV ex H (.bl b) := ⟨.bool b, rfl, rfl, by simp only [PyData.depth]; omega, by simp only [vol]; omega⟩
theorem bok_nil {ex : List Addr} {H : Hp} {a : Addr} (n : a ∉ ex) (h : H a = some (.dK [])) : BOkV ex H (.ref a) := ⟨.dict [], ⟨rfl, a, rfl, n, h⟩, by decide +kernel, by decide +kernel, by decide +kernel⟩
theorem bok_seq {ex : List Addr} {H : Hp} {a : Addr} {zs : List Str} (n : a ∉ ex) (b : Bool) (h : H a = some (if b then .lst (zs.map V.str) else .tup (zs.map V.str))) (hd : BOk (if b then .list (zs.map PyData.str) else .tuple (zs.map PyData.str)) := by decide +kernel) : BOkV ex H (.ref a) := by
  cases b with
  | true => exact ⟨.list (zs.map PyData.str), ⟨a, _, rfl, n, h, RpAll.strs zs⟩, hd⟩
  | false => exact ⟨.tuple (zs.map PyData.str), ⟨a, _, rfl, n, h, RpAll.strs zs⟩, hd⟩
instance (d : PyData) : Decidable (BOk d) := by unfold BOk; infer_instance
/-- a pair of a reader and a cell -/
theorem bok_pair {ex : List Addr} {H : Hp} {a : Addr} {x y : V} (n : a ∉ ex) (h : H a = some (.tup [x, y])) (hx : Drawn ex H x) (hy : Drawn ex H y) : BOkV ex H (.ref a) := by
  obtain ⟨d, r, o⟩ := hx
  obtain ⟨e, r', o'⟩ := hy
  refine ⟨.tuple [d, e], ⟨a, _, rfl, n, h, x, [y], rfl, r, y, [], rfl, r', rfl⟩, ?_, ?_, ?_⟩
  · simp only [niceD, niceAll, Bool.and_eq_true]
    exact ⟨o.1, o'.1, trivial⟩
  · have := o.2.1
    have := o'.2.1
    simp only [PyData.depth, PyData.depthAll]
    omega
  · have := o.2.2
    have := o'.2.2
    simp only [vol, volAll]
    omega
def spGoal4 : Sp := fun vs H Q _ => ∃ (D : Dr) (n : Nat) (p c : Addr) (es : List Ent) (ys : List Str), vs = [.ref D.d, .ref p, .ref c] ∧ Rp D.ex H (logD es) (.ref p) ∧ LogOk es ∧ es.length ≤ 60 ∧ H c = some (.lst (ys.map V.str)) ∧ (∀ z ∈ ys, VOk (.str z)) ∧ ys.length ≤ 60 ∧ c ∉ D.all ∧ DrAt D (n + 4) H ∧
  ∀ y H', BOkV D.ex H' y → Kp D.ex H H' → DrAt D n H' → Q y H'
section
variable {P : Program} {w : World} {K : PySem.W.Frag} {mg : Str → Option Value} {base : Heap}
theorem ok_goal4 (DLawGoal : Fn K mg "_law_goal" sLawGoal ["draw", "book", "spots"]) (DLawPick : Fn K mg "_law_pick" sLawPick ["draw", "some"]) (GLawPick : FnOk P w K mg base CX0 3 DLawPick.f DLawPick.fd ["draw", "some"] (spPick K)) :
    FnOk P w K mg base CX0 4 DLawGoal.f DLawGoal.fd ["draw", "book", "spots"] spGoal4 := by
  refine DLawGoal.F.ok scLawGoal (fun vs H Q E h => ?_) (fun cdv A outer s H vs Q E hr h => ?_)
  · obtain ⟨D, n, p, c, es, ys, rfl, _⟩ := h
    rfl
  obtain ⟨D, n, p, c, es, ys, rfl, rp, ok, h60, hc, hys, hyl, cD, dr, q⟩ := h
  have line : (10000 : Nat) < sizeLine := by decide
  refine ⟨_, pss_cons (ps_set (i := 3) scLawGoal.nd rfl (.inl rfl) (pe_lst (pa_cons pe_non (pa_cons pe_str (pa_cons pe_int (pa_cons (pe_tup (pa_cons pe_str (pa_cons pe_str (pa_cons pe_str pa_nil)))) (pa_cons (pe_lst (pa_cons pe_str (pa_cons pe_str pa_nil))) (pa_cons (pe_tup (pa_cons pe_str pa_nil)) (pa_cons pe_dnewK (pa_cons pe_bl pa_nil))))))))))
      (pss_cons (ps_set (i := 4) scLawGoal.nd rfl (.inl rfl) (pe_fn DLawPick GLawPick hr (pa_cons (pv 0) (pa_cons (pe_op op_cat (pe_op op_cat (pe_lst (pa_cons pe_str pa_nil)) (pe_op op_rep (pe_lc (own := [("entry", 6)]) (g := gName 6) (tt := tYes) (by rfl) scLawGoal.nd (piTupE K (pv 1)) (blkOk_by (N := ["draw", "book", "spots", "odd", "reader", "spot", "entry"]) (sc := defScope sLawGoal) (by decide +kernel)) (fun _ _ _ _ _ => (pg_name (i := 6) scLawGoal.nd rfl (.inl rfl))) (fun _ _ _ _ _ => pts_nil) (fun _ _ _ _ _ => (pe_ix (ixtE K) (pv 6) pe_int (fun _ _ => rfl)))) pe_int)) (pe_lst (pa_cons pe_str (pa_cons pe_non (pa_cons pe_int (pa_cons (pe_lst (pa_cons pe_str pa_nil)) (pa_cons pe_str pa_nil))))))) pa_nil))))
      (pss_cons (ps_set (i := 5) scLawGoal.nd rfl (.inl rfl) (pe_fn DLawPick GLawPick hr (pa_cons (pv 0) (pa_cons (pe_op op_cat (pe_op op_rep (pv 2) pe_int) (pe_lst (pa_cons pe_str (pa_cons pe_str (pa_cons pe_str (pa_cons pe_non (pa_cons pe_int (pa_cons (pe_tup (pa_cons pe_str pa_nil)) (pa_cons (pe_lst (pa_cons pe_str pa_nil)) pa_nil))))))))) pa_nil))))
      (pss_one (ps_ret (pe_fn DLawPick GLawPick hr (pa_cons (pv 0) (pa_cons (pe_op op_cat (pe_op op_rep (pe_lst (pa_cons (pe_tup (pa_cons (pv 4) (pa_cons (pv 5) pa_nil))) pa_nil)) pe_int) (pe_lst (pa_cons (pe_fn DLawPick GLawPick hr (pa_cons (pv 0) (pa_cons (pv 3) pa_nil))) pa_nil))) pa_nil))))))), ?_⟩
  have upk : ∀ {Ha Hb : Hp}, Kp [] Ha Hb → Kp D.ex Ha Hb := fun k => k.mono (by simp)
  -- odd
  refine ⟨by show 3 ≤ sizeLine; omega, fun u1 nu1 => ⟨by show 2 ≤ sizeLine; omega, fun l1 nl1 => ⟨by show 1 ≤ sizeLine; omega, fun u2 nu2 => fun w1 nw1 => ⟨by show 8 ≤ sizeLine; omega, fun oA noA => ?_⟩⟩⟩⟩
  have k1 : Kp [] H (upd H u1 (.tup [V.str "a", V.str "b", V.str "c"])) := Kp.laid nu1
  have e1 : (upd H u1 (.tup [V.str "a", V.str "b", V.str "c"])) u1 = some (.tup [V.str "a", V.str "b", V.str "c"]) := upd_same
  have u1D := dr.fresh nu1
  have dr1 := dr.keep k1
  generalize upd H u1 (.tup [V.str "a", V.str "b", V.str "c"]) = H1 at k1 e1 dr1 nl1 nu2 nw1 noA ⊢
  have k2 : Kp [] H1 (upd H1 l1 (.lst [V.str "", V.str "a"])) := Kp.laid nl1
  have e2 : (upd H1 l1 (.lst [V.str "", V.str "a"])) l1 = some (.lst [V.str "", V.str "a"]) := upd_same
  have l1D := dr1.fresh nl1
  have dr2 := dr1.keep k2
  generalize upd H1 l1 (.lst [V.str "", V.str "a"]) = H2 at k2 e2 dr2 nu2 nw1 noA ⊢
  have k3 : Kp [] H2 (upd H2 u2 (.tup [V.str ""])) := Kp.laid nu2
  have e3 : (upd H2 u2 (.tup [V.str ""])) u2 = some (.tup [V.str ""]) := upd_same
  have u2D := dr2.fresh nu2
  have dr3 := dr2.keep k3
  generalize upd H2 u2 (.tup [V.str ""]) = H3 at k3 e3 dr3 nw1 noA ⊢
  have k4 : Kp [] H3 (upd H3 w1 (.dK [])) := Kp.laid nw1
  have e4 : (upd H3 w1 (.dK [])) w1 = some (.dK []) := upd_same
  have w1D := dr3.fresh nw1
  have dr4 := dr3.keep k4
  generalize upd H3 w1 (.dK []) = H4 at k4 e4 dr4 noA ⊢
  have k5 : Kp [] H4 (upd H4 oA (.lst [V.non, V.str "", V.int 0, .ref u1, .ref l1, .ref u2, .ref w1, V.bl true])) := Kp.laid noA
  have e5 : (upd H4 oA (.lst [V.non, V.str "", V.int 0, .ref u1, .ref l1, .ref u2, .ref w1, V.bl true])) oA = some (.lst [V.non, V.str "", V.int 0, .ref u1, .ref l1, .ref u2, .ref w1, V.bl true]) := upd_same
  have oD := dr4.fresh noA
  have dr5 := dr4.keep k5
  generalize upd H4 oA (.lst [V.non, V.str "", V.int 0, .ref u1, .ref l1, .ref u2, .ref w1, V.bl true]) = H5 at k5 e5 dr5 ⊢
  have odd : ∀ x ∈ [V.non, V.str "", V.int 0, .ref u1, .ref l1, .ref u2, .ref w1, V.bl true], BOkV D.ex H5 x := fun x hx => by
    simp only [List.mem_cons, List.not_mem_nil, or_false] at hx
    rcases hx with z | z | z | z | z | z | z | z
    · rw [z]; exact bok_non
    · rw [z]; exact bok_str (by decide) (by decide +kernel)
    · rw [z]; exact bok_int
    · rw [z]; exact bok_seq (zs := ["a", "b", "c"]) (Dr.sub u1D) false (k5 _ _ (by simp) (k4 _ _ (by simp) (k3 _ _ (by simp) (k2 _ _ (by simp) e1))))
    · rw [z]; exact bok_seq (zs := ["", "a"]) (Dr.sub l1D) true (k5 _ _ (by simp) (k4 _ _ (by simp) (k3 _ _ (by simp) e2)))
    · rw [z]; exact bok_seq (zs := [""]) (Dr.sub u2D) false (k5 _ _ (by simp) (k4 _ _ (by simp) e3))
    · rw [z]; exact bok_nil (Dr.sub w1D) (k5 _ _ (by simp) e4)
    · rw [z]; exact bok_bl
  have kA : Kp [] H H5 := k1.trans (k2.trans (k3.trans (k4.trans k5)))
  clear k1 k2 k3 k4 k5 e1 e2 e3 e4 dr1 dr2 dr3 dr4 nu1 nl1 nu2 nw1 noA
  have hc5 := kA _ _ (by simp) hc
  have rp5 := Rp.keep (upk kA) _ _ rp
  -- the reader
  obtain ⟨pa, xs, epa, npa, hpa, hxs⟩ := id rp5
  obtain rfl := V.ref.inj epa
  have hxl : xs.length ≤ 60 := by rw [← hxs.len, List.length_map]; exact h60
  refine ⟨_, rfl, by show 1 ≤ sizeLine; omega, fun r1 nr1 => ?_⟩
  have k6 : Kp [] H5 (upd H5 r1 (.lst [V.str ""])) := Kp.laid nr1
  have e6 : (upd H5 r1 (.lst [V.str ""])) r1 = some (.lst [V.str ""]) := upd_same
  have r1D := dr5.fresh nr1
  have dr6 := dr5.keep k6
  generalize upd H5 r1 (.lst [V.str ""]) = H6 at k6 e6 dr6 ⊢
  have hpa6 := k6 _ _ (by simp) hpa
  have hxs6 := RpAll.keep (upk k6) _ _ hxs
  refine ⟨_, rfl, p, rfl, ⟨_, .inl (.inl hpa6)⟩, fun nA nnA => ?_⟩
  refine lc_ents (J := Itt K p) (gs := es) (ex := D.ex) (fun e => .str e.id) (fun _ => true) (walks_tup hpa6 nnA) nnA hxs6 (by omega) (fun e x H2 Q2 hm k2 r2 q2 => q2 H2 Kp.refl) (fun e x H2 Q2 hm hp k2 r2 q2 => ?_) (fun Hn zs kn en rn => ?_) fun x => wipe_one _ _ _
  · obtain ⟨d1', ed1, hd1, _⟩ := ent_reads e
    exact ⟨_, rfl, c_of (ent_ix r2 ed1 hd1 rfl fun vi ri => q2 vi H2 Kp.refl ri)⟩
  have ez : zs = (es.map Ent.id).map V.str := by
    have h1 : es.filter (fun _ => true) = es := by simp
    rw [h1] at rn
    have h2 : es.map (fun e => PyData.str e.id) = (es.map Ent.id).map PyData.str := by rw [List.map_map]; rfl
    rw [h2] at rn
    exact strs_of rn
  rw [ez] at en
  have kn' : Kp [] H6 Hn := Kp.drop kn nnA
  have nAD := dr6.fresh nnA
  have dr7 := dr6.keep kn'
  clear rn ez kn
  have nml : ((es.map Ent.id).map V.str).length ≤ 60 := by rw [List.length_map, List.length_map]; exact h60
  have mul : ((es.map Ent.id).map V.str).length * 2 ≤ 120 := by omega
  refine ⟨nA, 2, _, rfl, rfl, en, by decide, by decide, by show _ * 2 ≤ sizeLine; omega, fun P1 n1 => ?_⟩
  have k8 : Kp [] Hn (upd Hn P1 (.lst (List.replicate (2 : Int).toNat ((es.map Ent.id).map V.str)).flatten)) := Kp.laid n1
  have e8 : (upd Hn P1 (.lst (List.replicate (2 : Int).toNat ((es.map Ent.id).map V.str)).flatten)) P1 = some (.lst (List.replicate (2 : Int).toNat ((es.map Ent.id).map V.str)).flatten) := upd_same
  have P1D := dr7.fresh n1
  have dr8 := dr7.keep k8
  generalize upd Hn P1 (.lst (List.replicate (2 : Int).toNat ((es.map Ent.id).map V.str)).flatten) = H8 at k8 e8 dr8 ⊢
  have fl : (List.replicate (2 : Int).toNat ((es.map Ent.id).map V.str)).flatten.length ≤ 120 := by rw [rep_len, Nat.mul_comm]; exact mul
  have e68 : H8 r1 = some (.lst [V.str ""]) := k8 _ _ (by simp) (kn' _ _ (by simp) e6)
  refine ⟨r1, P1, _, _, rfl, rfl, e68, e8, by show 1 + _ ≤ sizeLine; omega, fun P2 n2 => ?_⟩
  generalize hM : (List.replicate (2 : Int).toNat ((es.map Ent.id).map V.str)).flatten = M at fl e8 ⊢
  have k9 : Kp [] H8 (upd H8 P2 (.lst ([V.str ""] ++ M))) := Kp.laid n2
  have e9 : (upd H8 P2 (.lst ([V.str ""] ++ M))) P2 = some (.lst ([V.str ""] ++ M)) := upd_same
  have P2D := dr8.fresh n2
  have dr9 := dr8.keep k9
  generalize upd H8 P2 (.lst ([V.str ""] ++ M)) = H9 at k9 e9 dr9 ⊢
  refine ⟨by show 1 ≤ sizeLine; omega, fun l2 nl2 => ⟨by show 5 ≤ sizeLine; omega, fun l3 nl3 => ?_⟩⟩
  have k10 : Kp [] H9 (upd H9 l2 (.lst [V.str "a"])) := Kp.laid nl2
  have e10 : (upd H9 l2 (.lst [V.str "a"])) l2 = some (.lst [V.str "a"]) := upd_same
  have l2D := dr9.fresh nl2
  have dr10 := dr9.keep k10
  generalize upd H9 l2 (.lst [V.str "a"]) = H10 at k10 e10 dr10 nl3 ⊢
  have k11 : Kp [] H10 (upd H10 l3 (.lst [V.str "no", V.non, V.int 5, .ref l2, V.str "zzzzzzzz"])) := Kp.laid nl3
  have e11 : (upd H10 l3 (.lst [V.str "no", V.non, V.int 5, .ref l2, V.str "zzzzzzzz"])) l3 = some (.lst [V.str "no", V.non, V.int 5, .ref l2, V.str "zzzzzzzz"]) := upd_same
  have l3D := dr10.fresh nl3
  have dr11 := dr10.keep k11
  generalize upd H10 l3 (.lst [V.str "no", V.non, V.int 5, .ref l2, V.str "zzzzzzzz"]) = H11 at k11 e11 dr11 ⊢
  refine ⟨P2, l3, _, _, rfl, rfl, k11 _ _ (by simp) (k10 _ _ (by simp) e9), e11, by rw [List.length_append]; show 1 + _ + 5 ≤ sizeLine; omega, fun P3 n3 => ?_⟩
  have k12 : Kp [] H11 (upd H11 P3 (.lst ([V.str ""] ++ M ++ [V.str "no", V.non, V.int 5, .ref l2, V.str "zzzzzzzz"]))) := Kp.laid n3
  have P3D := dr11.fresh n3
  have dr12 := dr11.keep k12
  have e12 : (upd H11 P3 (.lst ([V.str ""] ++ M ++ [V.str "no", V.non, V.int 5, .ref l2, V.str "zzzzzzzz"]))) P3 = some (.lst ([V.str ""] ++ M ++ [V.str "no", V.non, V.int 5, .ref l2, V.str "zzzzzzzz"])) := upd_same
  generalize upd H11 P3 (.lst ([V.str ""] ++ M ++ [V.str "no", V.non, V.int 5, .ref l2, V.str "zzzzzzzz"])) = H12 at k12 e12 dr12 ⊢
  have kB : Kp [] H5 H12 := k6.trans (kn'.trans (k8.trans (k9.trans (k10.trans (k11.trans k12)))))
  have e10' := k12 _ _ (by simp) (k11 _ _ (by simp) e10)
  have dstr : ∀ {Hx : Hp} {z : Str}, z.length ≤ 9 → PyData.strOk z = true → Drawn D.ex Hx (.str z) := fun {Hx z} h1 h2 => ⟨.str z, rfl, str_vok h1 h2⟩
  have dnon : ∀ {Hx : Hp}, Drawn D.ex Hx .non := ⟨.none, rfl, rfl, by simp only [PyData.depth]; omega, by simp only [vol]; omega⟩
  refine ⟨D, n + 3, P3, _, rfl, SqL.of e12, by simp, by simp only [List.length_append, List.length_cons, List.length_nil]; omega, Dr.sub P3D, dr12.less (by omega), fun j x0 H13 hx0 k13 dr13 => ?_⟩
  have hx : Drawn D.ex H13 x0 := by
    rcases List.mem_append.mp (List.mem_of_getElem? hx0) with z | z
    · rcases List.mem_append.mp z with z | z
      · rw [List.mem_singleton.mp z]; exact dstr (by decide) (by decide +kernel)
      · rw [← hM] at z
        obtain ⟨y, hy, rfl⟩ := rep_mem z
        obtain ⟨e, he, rfl⟩ := List.mem_map.mp hy
        exact ⟨.str e.id, rfl, id_vok (ok.ok e he).idb⟩
    · simp only [List.mem_cons, List.not_mem_nil, or_false] at z
      rcases z with z | z | z | z | z
      · rw [z]; exact dstr (by decide) (by decide +kernel)
      · rw [z]; exact dnon
      · rw [z]; exact ⟨.int 5, rfl, by decide +kernel, by simp only [PyData.depth]; omega, by decide +kernel⟩
      · rw [z]; exact ⟨.list [.str "a"], ⟨l2, _, rfl, Dr.sub l2D, k13 _ _ (Dr.sub l2D) e10', .str "a", [], rfl, rfl, rfl⟩, by decide +kernel, by decide +kernel, by decide +kernel⟩
      · rw [z]; exact dstr (by decide) (by decide +kernel)
  have kC : Kp D.ex H5 H13 := (upk kB).trans k13
  have hc13 := kC _ _ (Dr.sub cD) hc5
  have e513 := kC _ _ (Dr.sub oD) e5
  have odd13 : ∀ x ∈ [V.non, V.str "", V.int 0, .ref u1, .ref l1, .ref u2, .ref w1, V.bl true], BOkV D.ex H13 x := fun x hx => (odd x hx).keep kC
  have kA13 : Kp D.ex H H13 := (upk kA).trans kC
  clear kB k12 k11 k10 k9 k8 kn' k6 e12 e11 e10 e9 e8 e6 e68 e10' dr5 dr6 dr7 dr8 dr9 dr10 dr11 dr12 nr1 nnA n1 n2 nl2 nl3 n3 k13 hx0 hxs6 hpa6 en hM odd e5 hc5 kA rp5 kC
  -- the cell
  have mul3 : (ys.map V.str).length * 3 ≤ 180 := by rw [List.length_map]; omega
  refine ⟨_, rfl, _, rfl, c, 3, _, rfl, rfl, hc13, by decide, by decide, by show _ * 3 ≤ sizeLine; omega, fun P4 n4 => ?_⟩
  have k14 : Kp [] H13 (upd H13 P4 (.lst (List.replicate (3 : Int).toNat (ys.map V.str)).flatten)) := Kp.laid n4
  have e14 : (upd H13 P4 (.lst (List.replicate (3 : Int).toNat (ys.map V.str)).flatten)) P4 = some (.lst (List.replicate (3 : Int).toNat (ys.map V.str)).flatten) := upd_same
  have dr14 := dr13.keep k14
  have fl2 : (List.replicate (3 : Int).toNat (ys.map V.str)).flatten.length ≤ 180 := by rw [rep_len, Nat.mul_comm]; exact mul3
  generalize upd H13 P4 (.lst (List.replicate (3 : Int).toNat (ys.map V.str)).flatten) = H14 at k14 e14 dr14 ⊢
  generalize hM2 : (List.replicate (3 : Int).toNat (ys.map V.str)).flatten = M2 at fl2 e14 ⊢
  refine ⟨by show 1 ≤ sizeLine; omega, fun t1 nt1 => ⟨by show 1 ≤ sizeLine; omega, fun l4 nl4 => ⟨by show 7 ≤ sizeLine; omega, fun l5 nl5 => ?_⟩⟩⟩
  have k15 : Kp [] H14 (upd H14 t1 (.tup [V.str "a"])) := Kp.laid nt1
  have e15 : (upd H14 t1 (.tup [V.str "a"])) t1 = some (.tup [V.str "a"]) := upd_same
  have t1D := dr14.fresh nt1
  have dr15 := dr14.keep k15
  generalize upd H14 t1 (.tup [V.str "a"]) = H15 at k15 e15 dr15 nl4 nl5 ⊢
  have k16 : Kp [] H15 (upd H15 l4 (.lst [V.str "a"])) := Kp.laid nl4
  have e16 : (upd H15 l4 (.lst [V.str "a"])) l4 = some (.lst [V.str "a"]) := upd_same
  have l4D := dr15.fresh nl4
  have dr16 := dr15.keep k16
  generalize upd H15 l4 (.lst [V.str "a"]) = H16 at k16 e16 dr16 nl5 ⊢
  have k17 : Kp [] H16 (upd H16 l5 (.lst [V.str "none", V.str "A", V.str "abcde", V.non, V.int 7, .ref t1, .ref l4])) := Kp.laid nl5
  have e17 : (upd H16 l5 (.lst [V.str "none", V.str "A", V.str "abcde", V.non, V.int 7, .ref t1, .ref l4])) l5 = some (.lst [V.str "none", V.str "A", V.str "abcde", V.non, V.int 7, .ref t1, .ref l4]) := upd_same
  have dr17 := dr16.keep k17
  generalize upd H16 l5 (.lst [V.str "none", V.str "A", V.str "abcde", V.non, V.int 7, .ref t1, .ref l4]) = H17 at k17 e17 dr17 ⊢
  refine ⟨P4, l5, _, _, rfl, rfl, k17 _ _ (by simp) (k16 _ _ (by simp) (k15 _ _ (by simp) e14)), e17, by show _ + 7 ≤ sizeLine; omega, fun P5 n5 => ?_⟩
  have k18 : Kp [] H17 (upd H17 P5 (.lst (M2 ++ [V.str "none", V.str "A", V.str "abcde", V.non, V.int 7, .ref t1, .ref l4]))) := Kp.laid n5
  have e18 : (upd H17 P5 (.lst (M2 ++ [V.str "none", V.str "A", V.str "abcde", V.non, V.int 7, .ref t1, .ref l4]))) P5 = some (.lst (M2 ++ [V.str "none", V.str "A", V.str "abcde", V.non, V.int 7, .ref t1, .ref l4])) := upd_same
  have P5D := dr17.fresh n5
  have dr18 := dr17.keep k18
  generalize upd H17 P5 (.lst (M2 ++ [V.str "none", V.str "A", V.str "abcde", V.non, V.int 7, .ref t1, .ref l4])) = H18 at k18 e18 dr18 ⊢
  have kD : Kp [] H13 H18 := k14.trans (k15.trans (k16.trans (k17.trans k18)))
  have e15' := k18 _ _ (by simp) (k17 _ _ (by simp) (k16 _ _ (by simp) e15))
  have e16' := k18 _ _ (by simp) (k17 _ _ (by simp) e16)
  refine ⟨D, n + 2, P5, _, rfl, SqL.of e18, by simp, by simp only [List.length_append, List.length_cons, List.length_nil]; omega, Dr.sub P5D, dr18.less (by omega), fun j y0 H19 hy0 k19 dr19 => ?_⟩
  have hy : Drawn D.ex H19 y0 := by
    rcases List.mem_append.mp (List.mem_of_getElem? hy0) with z | z
    · rw [← hM2] at z
      obtain ⟨y, hy, rfl⟩ := rep_mem z
      exact ⟨.str y, rfl, hys y hy⟩
    · simp only [List.mem_cons, List.not_mem_nil, or_false] at z
      rcases z with z | z | z | z | z | z | z
      · rw [z]; exact dstr (by decide) (by decide +kernel)
      · rw [z]; exact dstr (by decide) (by decide +kernel)
      · rw [z]; exact dstr (by decide) (by decide +kernel)
      · rw [z]; exact dnon
      · rw [z]; exact ⟨.int 7, rfl, by decide +kernel, by simp only [PyData.depth]; omega, by decide +kernel⟩
      · rw [z]; exact ⟨.tuple [.str "a"], ⟨t1, _, rfl, Dr.sub t1D, k19 _ _ (Dr.sub t1D) e15', .str "a", [], rfl, rfl, rfl⟩, by decide +kernel, by decide +kernel, by decide +kernel⟩
      · rw [z]; exact ⟨.list [.str "a"], ⟨l4, _, rfl, Dr.sub l4D, k19 _ _ (Dr.sub l4D) e16', .str "a", [], rfl, rfl, rfl⟩, by decide +kernel, by decide +kernel, by decide +kernel⟩
  have kE : Kp D.ex H13 H19 := (upk kD).trans k19
  have hx19 := hx.keep kE
  have e519 := kE _ _ (Dr.sub oD) e513
  have odd19 : ∀ x ∈ [V.non, V.str "", V.int 0, .ref u1, .ref l1, .ref u2, .ref w1, V.bl true], BOkV D.ex H19 x := fun x hx => (odd13 x hx).keep kE
  have kA19 := kA13.trans kE
  clear kD k14 k15 k16 k17 k18 k19 e14 e15 e16 e17 e18 e15' e16' dr13 dr14 dr15 dr16 dr17 dr18 kE odd13 e513 hc13 hx hM2
  -- the target
  refine ⟨_, rfl, _, rfl, _, rfl, (by show 2 ≤ sizeLine; omega), fun t2 nt2 => ⟨by show 1 ≤ sizeLine; omega, fun l6 nl6 => ?_⟩⟩
  have k20 : Kp [] H19 (upd H19 t2 (.tup [x0, y0])) := Kp.laid nt2
  have e20 : (upd H19 t2 (.tup [x0, y0])) t2 = some (.tup [x0, y0]) := upd_same
  have t2D := dr19.fresh nt2
  have dr20 := dr19.keep k20
  generalize upd H19 t2 (.tup [x0, y0]) = H20 at k20 e20 dr20 nl6 ⊢
  have k21 : Kp [] H20 (upd H20 l6 (.lst [.ref t2])) := Kp.laid nl6
  have e21 : (upd H20 l6 (.lst [.ref t2])) l6 = some (.lst [.ref t2]) := upd_same
  have dr21 := dr20.keep k21
  generalize upd H20 l6 (.lst [.ref t2]) = H21 at k21 e21 dr21 ⊢
  refine ⟨l6, 7, _, rfl, rfl, e21, by decide, by decide, by show 1 * 7 ≤ sizeLine; omega, fun P6 n6 => ?_⟩
  have k22 : Kp [] H21 (upd H21 P6 (.lst (List.replicate (7 : Int).toNat [V.ref t2]).flatten)) := Kp.laid n6
  have e22 : (upd H21 P6 (.lst (List.replicate (7 : Int).toNat [V.ref t2]).flatten)) P6 = some (.lst (List.replicate (7 : Int).toNat [V.ref t2]).flatten) := upd_same
  have P6D := dr21.fresh n6
  have dr22 := dr21.keep k22
  generalize upd H21 P6 (.lst (List.replicate (7 : Int).toNat [V.ref t2]).flatten) = H22 at k22 e22 dr22 ⊢
  have kF : Kp [] H19 H22 := k20.trans (k21.trans k22)
  have e522 := kF _ _ (by simp) e519
  refine ⟨_, rfl, _, rfl, D, n + 1, oA, _, rfl, SqL.of e522, by simp, by simp, Dr.sub oD, dr22.less (by omega), fun j o0 H23 ho0 k23 dr23 => ?_⟩
  have ho : BOkV D.ex H23 o0 := ((odd19 o0 (List.mem_of_getElem? ho0)).keep (upk kF)).keep k23
  have e22' := k23 _ _ (Dr.sub P6D) e22
  have e20' := k23 _ _ (Dr.sub t2D) (k22 _ _ (by simp) (k21 _ _ (by simp) e20))
  refine ⟨by show 1 ≤ sizeLine; omega, fun l7 nl7 => ?_⟩
  have k24 : Kp [] H23 (upd H23 l7 (.lst [o0])) := Kp.laid nl7
  have e24 : (upd H23 l7 (.lst [o0])) l7 = some (.lst [o0]) := upd_same
  have dr24 := dr23.keep k24
  generalize upd H23 l7 (.lst [o0]) = H24 at k24 e24 dr24 ⊢
  refine ⟨P6, l7, _, _, rfl, rfl, k24 _ _ (by simp) e22', e24, by show 7 + 1 ≤ sizeLine; omega, fun P7 n7 => ?_⟩
  have k25 : Kp [] H24 (upd H24 P7 (.lst ((List.replicate (7 : Int).toNat [V.ref t2]).flatten ++ [o0]))) := Kp.laid n7
  have e25 : (upd H24 P7 (.lst ((List.replicate (7 : Int).toNat [V.ref t2]).flatten ++ [o0]))) P7 = some (.lst ((List.replicate (7 : Int).toNat [V.ref t2]).flatten ++ [o0])) := upd_same
  have P7D := dr24.fresh n7
  have dr25 := dr24.keep k25
  generalize upd H24 P7 (.lst ((List.replicate (7 : Int).toNat [V.ref t2]).flatten ++ [o0])) = H25 at k25 e25 dr25 ⊢
  have kG : Kp D.ex H19 H25 := ((upk kF).trans k23).trans (upk (k24.trans k25))
  have e20'' := k25 _ _ (by simp) (k24 _ _ (by simp) e20')
  refine ⟨D, n, P7, _, rfl, SqL.of e25, by simp, by rw [List.length_append]; show 7 + 1 < 1073741824; decide, Dr.sub P7D, dr25.less (by omega), fun j r0 H26 hr0 k26 dr26 => ?_⟩
  refine q r0 H26 ?_ (kA19.trans (kG.trans k26)) dr26
  rcases List.mem_append.mp (List.mem_of_getElem? hr0) with z | z
  · have : r0 = .ref t2 := by
      obtain ⟨l, hl, hy'⟩ := List.mem_flatten.mp z
      rw [(List.mem_replicate.mp hl).2] at hy'
      exact List.mem_singleton.mp hy'
    rw [this]
    have kH := kG.trans k26
    exact bok_pair (Dr.sub t2D) (k26 _ _ (Dr.sub t2D) e20'') (hx19.keep kH) (hy.keep kH)
  · rw [List.mem_singleton.mp z]
    exact (ho.keep (upk (k24.trans k25))).keep k26
end
end NV
/-! C04a -/
set_option Elab.async false
set_option linter.all false
set_option maxRecDepth 100000
set_option maxHeartbeats 1000000
/-! what is told and what is expected, side by side -/
namespace NV
open PySem PySem.Spec PyProof.Rows L2
open C8 (pss_cut pe_gc)
def outD (o : Option (Nat × PyData)) : Option PyData := o.map fun r => .tuple [.str (resW r.1), r.2]
def logO : PyData := .tuple [.str "log", .bool true]
def Told (ex : List Addr) (H : Hp) (o : Option PyData) (p : Addr) : Prop := match o with
  | some d => Rp ex H d (.ref p)
  | none => ∃ y, H p = some (.tup [.str "value", y])
def Due (ex : List Addr) (H : Hp) (o : Option PyData) (v : V) : Prop := match o with
  | some d => Rp ex H d v
  | none => v = .non
theorem due_of {ex : List Addr} {H : Hp} {o : Option (Nat × PyData)} {y : V} (h : ErrV ex H o y) : Due ex H (outD o) y := by
  cases o with
  | none => exact h
  | some r =>
    obtain ⟨a, x, rfl, n, e, rx⟩ := h
    exact ⟨a, _, rfl, n, e, .str (resW r.1), [x], rfl, rfl, x, [], rfl, rx, rfl⟩
theorem Due.keep {ex : List Addr} {H H' : Hp} {o : Option PyData} {v : V} (h : Due ex H o v) (k : Kp ex H H') : Due ex H' o v := by
  cases o with
  | none => exact h
  | some d => exact Rp.keep k _ _ h
theorem Due.ext {ex : List Addr} {H H' : Hp} {o : Option PyData} {v : V} (h : Due ex H o v) (k : LamX.ExtN H H') : Due ex H' o v := by
  cases o with
  | none => exact h
  | some d => exact Rp.extN k _ _ h
theorem Told.keep {ex : List Addr} {H H' : Hp} {o : Option PyData} {p : Addr} (h : Told ex H o p) (k : LamX.ExtN H H') : Told ex H' o p := by
  cases o with
  | none => obtain ⟨y, e⟩ := h; exact ⟨y, k _ _ e (fun _ z => by cases z)⟩
  | some d => exact Rp.extN k _ _ h
/-! ### bounds -/
theorem nice_in : ∀ {ds : List PyData} {x : PyData}, niceAll ds = true → x ∈ ds → niceD x = true
  | d :: ds, x, h, hx => by
    unfold niceAll at h
    rw [Bool.and_eq_true] at h
    rcases List.mem_cons.mp hx with e | e
    · rw [e]; exact h.1
    · exact nice_in h.2 e
theorem deep_in : ∀ {ds : List PyData} {x : PyData}, x ∈ ds → x.depth ≤ PyData.depthAll ds
  | d :: ds, x, hx => by
    simp only [PyData.depthAll]
    rcases List.mem_cons.mp hx with e | e
    · rw [e]; exact Nat.le_max_left _ _
    · exact Nat.le_trans (deep_in e) (Nat.le_max_right _ _)
theorem vol_in : ∀ {ds : List PyData} {x : PyData}, x ∈ ds → vol x ≤ volAll ds
  | d :: ds, x, hx => by
    simp only [volAll]
    rcases List.mem_cons.mp hx with e | e
    · rw [e]; omega
    · have := vol_in e; omega
theorem vol_len : ∀ ds : List PyData, 2 * ds.length ≤ volAll ds
  | [] => Nat.zero_le _
  | d :: ds => by
    have := vol_len ds
    simp only [volAll, List.length_cons]
    omega
theorem BOk.itemL {ds : List PyData} {x : PyData} (h : BOk (.list ds)) (hx : x ∈ ds) : BOk x := by
  obtain ⟨h1, h2, h3⟩ := h
  simp only [niceD] at h1
  simp only [PyData.depth] at h2
  simp only [vol] at h3
  have := deep_in hx
  have := vol_in hx
  exact ⟨nice_in h1 hx, by omega, by omega⟩
theorem BOk.itemT {ds : List PyData} {x : PyData} (h : BOk (.tuple ds)) (hx : x ∈ ds) : BOk x := by
  obtain ⟨h1, h2, h3⟩ := h
  simp only [niceD] at h1
  simp only [PyData.depth] at h2
  simp only [vol] at h3
  have := deep_in hx
  have := vol_in hx
  exact ⟨nice_in h1 hx, by omega, by omega⟩
theorem BOk.few {d : PyData} (h : BOk d) : (namesD d).length ≤ 1000 := by
  obtain ⟨_, _, h3⟩ := h
  have cut : ∀ ds : List PyData, (ds.filterMap strOf).length ≤ ds.length := fun ds => List.length_filterMap_le _ _
  cases d with
  | list ds =>
    simp only [vol] at h3
    have := vol_len ds
    have := cut ds
    show (ds.filterMap strOf).length ≤ 1000
    omega
  | tuple ds =>
    simp only [vol] at h3
    have := vol_len ds
    have := cut ds
    show (ds.filterMap strOf).length ≤ 1000
    omega
  | _ => exact Nat.zero_le _
def No3 (r : Nat × PyData) : Prop := r.1 = 0 ∨ r.1 = 1 ∨ r.1 = 2
theorem good_of {r : Nat × PyData} (n : No3 r) (h : BOk r.2) : Good (.tuple [.str (resW r.1), r.2]) := by
  have w : (resW r.1).length ≤ 9 ∧ PyData.strOk (resW r.1) = true := by
    rcases n with e | e | e <;> rw [e] <;> exact ⟨by decide, by decide +kernel⟩
  obtain ⟨a1, a2, a3⟩ := h
  obtain ⟨b1, _, b3⟩ := str_vok w.1 w.2
  refine ⟨?_, ?_, ?_⟩
  · simp only [niceD, niceAll, Bool.and_eq_true] at b1 ⊢
    exact ⟨b1, a1, trivial⟩
  · simp only [PyData.depth, PyData.depthAll]
    omega
  · simp only [vol, volAll] at b3 ⊢
    omega
theorem goneI_sub {es : List Ent} {y : PyData} {r : Nat × PyData} (h : goneI es y = some r) : r.2 = y ∧ No3 r := by
  cases y with
  | str z =>
    cases hz : idB z with
    | false =>
      rw [goneI_bad (show wordD 6 true (.str z) = false from hz)] at h
      cases h
      exact ⟨rfl, .inl rfl⟩
    | true =>
      rw [goneI_str hz] at h
      cases hf : es.find? fun e => decide (e.id = z) with
      | none => rw [hf] at h; cases h
      | some e =>
        rw [hf] at h
        dsimp only at h
        unfold mayE at h
        cases hw : e.isW with
        | false =>
          rw [if_pos hw] at h
          cases h
          exact ⟨rfl, .inl rfl⟩
        | true =>
          rw [hw, if_neg (by simp)] at h
          by_cases hp : e.pr = none
          · rw [if_pos hp] at h
            cases h
            exact ⟨rfl, .inr (.inr rfl)⟩
          · rw [if_neg hp] at h
            cases h
  | _ => cases h; exact ⟨rfl, .inl rfl⟩
theorem goneE_sub {es : List Ent} {d : PyData} {r : Nat × PyData} (b : BOk d) (h : goneE es d = some r) : BOk r.2 ∧ No3 r := by
  cases d with
  | list ds =>
    obtain ⟨y, hy, e⟩ := List.exists_of_findSome?_eq_some (show ds.findSome? (goneI es) = some r from h)
    obtain ⟨e1, n⟩ := goneI_sub e
    rw [e1]
    exact ⟨b.itemL hy, n⟩
  | tuple ds =>
    obtain ⟨y, hy, e⟩ := List.exists_of_findSome?_eq_some (show ds.findSome? (goneI es) = some r from h)
    obtain ⟨e1, n⟩ := goneI_sub e
    rw [e1]
    exact ⟨b.itemT hy, n⟩
  | _ => cases h; exact ⟨b, .inl rfl⟩
theorem readE_sub {es : List Ent} {k : Nat} {d : PyData} {r : Nat × PyData} (b : BOk d) (h : readE es k d = some r) : BOk r.2 ∧ No3 r := by
  unfold readE at h
  by_cases hr : rdAt es k d = true
  · rw [if_pos hr] at h; cases h
  · rw [if_neg hr] at h
    cases h
    exact ⟨b, .inr (.inl rfl)⟩
theorem goalE_sub {es : List Ent} {d : PyData} {r : Nat × PyData} (b : BOk d) (h : goalE es d = some r) : BOk r.2 ∧ No3 r := by
  cases d with
  | tuple ds =>
    match ds, b, h with
    | [], b, h => cases h; exact ⟨b, .inl rfl⟩
    | [_], b, h => cases h; exact ⟨b, .inl rfl⟩
    | _ :: _ :: _ :: _, b, h => cases h; exact ⟨b, .inl rfl⟩
    | [x, y], b, h =>
      have h : (match posD es x with | none => some (0, x) | some k => if writeAt es k = true then some (0, x) else readE es k y) = some r := h
      have bx := b.itemT (show x ∈ [x, y] by simp)
      cases hp : posD es x with
      | none =>
        rw [hp] at h
        cases h
        exact ⟨bx, .inl rfl⟩
      | some k =>
        rw [hp] at h
        dsimp only at h
        cases hw : writeAt es k with
        | true =>
          rw [hw] at h
          cases h
          exact ⟨bx, .inl rfl⟩
        | false =>
          rw [hw] at h
          exact readE_sub (b.itemT (show y ∈ [x, y] by simp)) h
  | _ => cases h; exact ⟨b, .inl rfl⟩
theorem rdE_sub {es : List Ent} {gone : List Str} {dr dc : PyData} {r : Nat × PyData} (b : BOk dr) (b2 : BOk dc) (h : rdE es gone dr dc = some r) : BOk r.2 ∧ No3 r := by
  unfold rdE at h
  cases hp : posD (liveB es gone) dr with
  | none =>
    rw [hp] at h
    cases h
    exact ⟨b, .inl rfl⟩
  | some k =>
    rw [hp] at h
    exact readE_sub b2 h
theorem srcE_rd {es : List Ent} {dg dr dc : PyData} : srcE es dg dr dc = match goneE es dg with
    | some r => some r
    | none => rdE es (namesD dg) dr dc := rfl
theorem depE_sub {es : List Ent} {dg dt : PyData} {r : Nat × PyData} (b : BOk dg) (b2 : BOk dt) (h : depE es dg dt = some r) : BOk r.2 ∧ No3 r := by
  unfold depE at h
  cases hg : goneE es dg with
  | none => rw [hg] at h; exact goalE_sub b2 h
  | some r' =>
    rw [hg] at h
    cases h
    exact goneE_sub b hg
theorem srcE_sub {es : List Ent} {dg dr dc : PyData} {r : Nat × PyData} (b : BOk dg) (b2 : BOk dr) (b3 : BOk dc) (h : srcE es dg dr dc = some r) : BOk r.2 ∧ No3 r := by
  rw [srcE_rd] at h
  cases hg : goneE es dg with
  | none => rw [hg] at h; exact rdE_sub b2 b3 h
  | some r' =>
    rw [hg] at h
    cases h
    exact goneE_sub b hg
/-! ### what a lambda's error becomes -/
theorem errTo_res {K : PySem.W.Frag} {Ae : ErrAt} {ex : List Addr} {H : Hp} {Q : VK} {r : Nat × PyData} (n : No3 r) (c0 : ErrCls K Ae 0) (c1 : ErrCls K Ae 1) (c2 : ErrCls K Ae 2)
    (q : ∀ p H' x, Kp [] H H' → H' p = some (.tup [.str (resW r.1), x]) → Rp ex H' r.2 x → Q (.ref p) H') : ErrTo Ae.no ex H (resE K Ae Q) r := by
  obtain ⟨i, d⟩ := r
  intro dd x H2 k2 h2 r2
  rcases n with e | e | e
  · obtain rfl : i = 0 := e
    exact ⟨0, x, by decide, rfl, c0, (fun b hb => by cases hb; exact ⟨_, h2⟩), fun _ => ⟨dd, _, rfl, h2, rfl⟩, (fun z => absurd z (by decide)), fun p H3 k3 h3 => q p H3 x (k2.trans k3) h3 (Rp.keep (k3.mono (by simp)) _ _ r2)⟩
  · obtain rfl : i = 1 := e
    exact ⟨1, x, by decide, rfl, c1, (fun b hb => by cases hb; exact ⟨_, h2⟩), fun _ => ⟨dd, _, rfl, h2, rfl⟩, (fun z => absurd z (by decide)), fun p H3 k3 h3 => q p H3 x (k2.trans k3) h3 (Rp.keep (k3.mono (by simp)) _ _ r2)⟩
  · obtain rfl : i = 2 := e
    exact ⟨2, x, by decide, rfl, c2, (fun b hb => by cases hb; exact ⟨_, h2⟩), fun _ => ⟨dd, _, rfl, h2, rfl⟩, (fun z => absurd z (by decide)), fun p H3 k3 h3 => q p H3 x (k2.trans k3) h3 (Rp.keep (k3.mono (by simp)) _ _ r2)⟩
/-- the log that is given: the drawn one, or none -/
def GivenV (ex : List Addr) (H : Hp) (es : List Ent) (bad : Bool) (v : V) : Prop := if bad then ∃ d, Rp ex H d v ∧ niceD d = true ∧ logD' d = false else Rp ex H (logD es) v
theorem GivenV.ext {ex : List Addr} {H H' : Hp} {es : List Ent} {bad : Bool} {v : V} (h : GivenV ex H es bad v) (k : LamX.ExtN H H') : GivenV ex H' es bad v := by
  cases bad with
  | true => obtain ⟨d, r, n⟩ := h; exact ⟨d, Rp.extN k _ _ r, n⟩
  | false => exact Rp.extN k _ _ (show Rp ex H (logD es) v from h)
theorem GivenV.keep {ex : List Addr} {H H' : Hp} {es : List Ent} {bad : Bool} {v : V} (h : GivenV ex H es bad v) (k : Kp ex H H') : GivenV ex H' es bad v := by
  cases bad with
  | true => obtain ⟨d, r, n⟩ := h; exact ⟨d, Rp.keep k _ _ r, n⟩
  | false => exact Rp.keep k _ _ (show Rp ex H (logD es) v from h)
def toldO (bad : Bool) (o : Option (Nat × PyData)) : Option PyData := if bad then some logO else outD o
/-- what stands apart: no tuple, no table of code objects -/
def Apart (ex : List Addr) (H : Hp) : Prop := ∀ b ∈ ex, ∃ o, H b = some o ∧ (∀ ps, o ≠ .tbl ps) ∧ ∀ xs, o ≠ .tup xs
theorem Apart.live {ex : List Addr} {H : Hp} (h : Apart ex H) : Live ex H := fun b hb z => by
  obtain ⟨o, e, _⟩ := h b hb
  rw [z] at e
  cases e
theorem Apart.tup {ex : List Addr} {H : Hp} {p : Addr} {xs : List V} (h : Apart ex H) (e : H p = some (.tup xs)) : p ∉ ex := fun z => by
  obtain ⟨o, e', _, n⟩ := h p z
  rw [e] at e'
  cases e'
  exact n _ rfl
theorem Apart.ext {ex : List Addr} {H H' : Hp} (h : Apart ex H) (k : LamX.ExtN H H') : Apart ex H' := fun b hb => by
  obtain ⟨o, e, n1, n2⟩ := h b hb
  exact ⟨o, k b o e n1, n1, n2⟩
theorem Apart.kp {ex : List Addr} {H H' : Hp} (h : Apart ex H) (k : Kp [] H H') : Apart ex H' := h.ext (LamX.ExtN.of fun b o z => k b o (by simp) z)
theorem apart_dr {D : Dr} {n : Nat} {H : Hp} (d : DrAt D n H) : Apart D.ex H := fun b hb => by
  obtain ⟨_, large, items, left, turn, h1, h2, _⟩ := d
  rcases List.mem_cons.mp hb with z | z
  · rw [z]; exact ⟨_, h1, (fun _ y => by cases y), (fun _ y => by cases y)⟩
  · rw [List.mem_singleton.mp z]; exact ⟨_, h2, (fun _ y => by cases y), (fun _ y => by cases y)⟩
theorem Apart.cons {ex : List Addr} {H : Hp} {b : Addr} {us : List V} (h : Apart ex H) (e : H b = some (.lst us)) : Apart (b :: ex) H := fun c hc => by
  rcases List.mem_cons.mp hc with z | z
  · rw [z]; exact ⟨_, e, (fun _ y => by cases y), (fun _ y => by cases y)⟩
  · exact h c z
section
variable {K : PySem.W.Frag} {Ae : ErrAt} {PL : Addr} {nm : Str} {σ : L2.St} {H : Hp} {Q : VK} {es : List Ent} {dt dg dr dc : PyData} {v u g : V} {ex : List Addr} {bad : Bool} {sp : Sp}
theorem res_set (h1 : ∀ vs H Q E, spSetX Ae.no vs H Q E → sp vs H Q E) (h2 : ∀ vs H Q E, spBadN Ae.log 2 vs H Q E → sp vs H Q E) (s10 : σ[10]? = some (some v)) (s8 : σ[8]? = some (some u)) (s7 : σ[7]? = some (some g)) (hT : TabL PL nm H) (ap : Apart ex H)
    (hv : GivenV ex H es bad v) (ok : LogOk es) (h60 : es.length ≤ 60) (rt : Rp ex H dt u) (bt : BOk dt) (rg : Rp ex H dg g) (bg : BOk dg) (c0 : ErrCls K Ae 0) (c1 : ErrCls K Ae 1) (c2 : ErrCls K Ae 2) (c4 : ErrCls K Ae 4)
    (q : ∀ p H', LamX.ExtN H H' → TabL PL nm H' → Told ex H' (toldO bad (depE es dg dt)) p → Q (.ref p) H') :
    tLamR K Ae PL nm (fun E => tCallN 2 1 sp (· ++ ·) E (tCons (tVar 10) (tCons (tVar 8) tNil)) (tCons (tVar 7) tNil)) σ H Q := by
  refine ⟨hT, fun H1 e1 t1 => ?_⟩
  have ap1 := ap.ext e1
  have kx : ∀ {Ha Hb : Hp}, Kp [] Ha Hb → LamX.ExtN Ha Hb := fun k => LamX.ExtN.of fun b o z => k b o (by simp) z
  refine ⟨_, s10, _, s8, _, s7, rfl, rfl, ?_⟩
  have hv1 := hv.ext e1
  cases bad with
  | true =>
    obtain ⟨d, rd, nd, hb⟩ := hv1
    refine h2 _ _ _ _ ⟨v, [u, g], d, ex, rfl, rfl, rd, nd, hb, fun H2 k2 => ?_⟩
    refine ⟨4, .bl true, by decide, rfl, c4, (fun _ z => by cases z), (fun z => absurd z (by decide)), fun _ => rfl, fun p H3 k3 h3 => ?_⟩
    have k13 := k2.trans k3
    exact q p H3 (e1.trans (kx k13)) (t1.keep k13) ⟨p, _, rfl, (ap1.kp k13).tup h3, h3, .str "log", [.bl true], rfl, rfl, .bl true, [], rfl, rfl, rfl⟩
  | false =>
    refine h1 _ _ _ _ ⟨v, u, g, es, dt, dg, ex, rfl, ⟨hv1, ok, h60, Rp.extN e1 _ _ rg, bg.1, bg.few, ap1.live⟩, Rp.extN e1 _ _ rt, bt.1, fun hn y H2 k2 p H3 k3 h3 => ?_, fun r hr => ?_⟩
    · have k13 := k2.trans k3
      refine q p H3 (e1.trans (kx k13)) (t1.keep k13) ?_
      show Told ex H3 (outD (depE es dg dt)) p
      rw [hn]
      exact ⟨y, h3⟩
    · refine errTo_res (depE_sub bg bt hr).2 c0 c1 c2 fun p H3 x k13 h3 rx => q p H3 (e1.trans (kx k13)) (t1.keep k13) ?_
      show Told ex H3 (outD (depE es dg dt)) p
      rw [hr]
      exact ⟨p, _, rfl, (ap1.kp k13).tup h3, h3, .str _, [x], rfl, rfl, x, [], rfl, rx, rfl⟩
theorem res_src {t : Addr} {x y : V} (h1 : ∀ vs H Q E, spSrcX Ae.no vs H Q E → sp vs H Q E) (h2 : ∀ vs H Q E, spBadN Ae.log 3 vs H Q E → sp vs H Q E) (s10 : σ[10]? = some (some v)) (s9 : σ[9]? = some (some (.ref t))) (s7 : σ[7]? = some (some g)) (hT : TabL PL nm H) (ap : Apart ex H)
    (hv : GivenV ex H es bad v) (ok : LogOk es) (h60 : es.length ≤ 60) (ht : H t = some (.tup [x, y])) (rr : Rp ex H dr x) (rc : Rp ex H dc y) (br : BOk dr) (bc : BOk dc) (rg : Rp ex H dg g) (bg : BOk dg) (c0 : ErrCls K Ae 0) (c1 : ErrCls K Ae 1) (c2 : ErrCls K Ae 2) (c4 : ErrCls K Ae 4)
    (q : ∀ p H', LamX.ExtN H H' → TabL PL nm H' → Told ex H' (toldO bad (srcE es dg dr dc)) p → Q (.ref p) H') :
    tLamR K Ae PL nm (fun E => tCallN 3 1 sp (· ++ ·) E (tCons (tVar 10) (tCons (tOp (rIxT K) (tVar 9) (tC (.int 0))) (tCons (tOp (rIxT K) (tVar 9) (tC (.int 1))) tNil))) (tCons (tVar 7) tNil)) σ H Q := by
  refine ⟨hT, fun H1 e1 t1 => ?_⟩
  have ap1 := ap.ext e1
  have kx : ∀ {Ha Hb : Hp}, Kp [] Ha Hb → LamX.ExtN Ha Hb := fun k => LamX.ExtN.of fun b o z => k b o (by simp) z
  have ht1 := e1 _ _ ht (fun _ z => by cases z)
  refine ⟨_, s10, _, s9, ⟨t, [x, y], 0, x, rfl, rfl, .inl (.inl ht1), rfl, _, s9, ⟨t, [x, y], 1, y, rfl, rfl, .inl (.inl ht1), rfl, _, s7, rfl, rfl, ?_⟩⟩⟩
  have hv1 := hv.ext e1
  cases bad with
  | true =>
    obtain ⟨d, rd, nd, hb⟩ := hv1
    refine h2 _ _ _ _ ⟨v, [x, y, g], d, ex, rfl, rfl, rd, nd, hb, fun H2 k2 => ?_⟩
    refine ⟨4, .bl true, by decide, rfl, c4, (fun _ z => by cases z), (fun z => absurd z (by decide)), fun _ => rfl, fun p H3 k3 h3 => ?_⟩
    have k13 := k2.trans k3
    exact q p H3 (e1.trans (kx k13)) (t1.keep k13) ⟨p, _, rfl, (ap1.kp k13).tup h3, h3, .str "log", [.bl true], rfl, rfl, .bl true, [], rfl, rfl, rfl⟩
  | false =>
    refine h1 _ _ _ _ ⟨v, x, y, g, es, dr, dc, dg, ex, rfl, ⟨hv1, ok, h60, Rp.extN e1 _ _ rg, bg.1, bg.few, ap1.live⟩, Rp.extN e1 _ _ rr, Rp.extN e1 _ _ rc, bc.1, fun hn y H2 k2 p H3 k3 h3 => ?_, fun r hr => ?_⟩
    · have k13 := k2.trans k3
      refine q p H3 (e1.trans (kx k13)) (t1.keep k13) ?_
      show Told ex H3 (outD (srcE es dg dr dc)) p
      rw [hn]
      exact ⟨y, h3⟩
    · refine errTo_res (srcE_sub bg br bc hr).2 c0 c1 c2 fun p H3 x k13 h3 rx => q p H3 (e1.trans (kx k13)) (t1.keep k13) ?_
      show Told ex H3 (outD (srcE es dg dr dc)) p
      rw [hr]
      exact ⟨p, _, rfl, (ap1.kp k13).tup h3, h3, .str _, [x], rfl, rfl, x, [], rfl, rx, rfl⟩
end
theorem set_dep {Cs : Nat → Addr} {vs : List V} {H : Hp} {Q : VK} {E : XK} (h : spSetX Cs vs H Q E) : spDepX Cs vs H Q E := by
  obtain ⟨v, u, g, es, dt, dg, ex, e, ag, rt, nt, yes, no⟩ := h
  exact ⟨v, u, g, es, dt, dg, ex, e, ag, rt, nt, fun hn p H' rows k _ _ => yes hn (.ref p) H' k, no⟩
/-! ### the two texts that are compared -/
theorem logO_good : Good logO := ⟨by decide +kernel, by decide +kernel, by decide +kernel⟩
theorem told_good {bad : Bool} {o : Option (Nat × PyData)} {d : PyData} (h : ∀ r, o = some r → BOk r.2 ∧ No3 r) (e : toldO bad o = some d) : Good d := by
  cases bad with
  | true => cases e; exact logO_good
  | false =>
    cases o with
    | none => cases e
    | some r =>
      cases e
      exact good_of (h r rfl).2 (h r rfl).1
end NV
/-! C04b -/
set_option Elab.async false
set_option linter.all false
set_option maxRecDepth 100000
set_option maxHeartbeats 1000000
/-! the law of refusals: comparing, the log that is given -/
namespace NV
open PySem PySem.Spec PyProof.Rows L2
open C8 (pss_cut pe_gc)
theorem value_good : Good (.str "value") := ⟨by decide +kernel, by decide +kernel, by decide +kernel⟩
theorem told_cmp {K : PySem.W.Frag} {σ : L2.St} {H : Hp} {ex ex' : List Addr} {o : Option PyData} {vd : V} {p : Addr} {Q : Bool → Hp → Prop} (s12 : σ[12]? = some (some vd)) (s14 : σ[14]? = some (some (.ref p))) (hd : Due ex H o vd) (ht : Told ex' H o p) (g : ∀ d, o = some d → Good d) (q : Q false H) :
    tTest (tOp rNe (tCB rRepr (tCons (tIf (tTest (tOp (fun x y H Q => y = V.non ∧ Q (.bl (!decide (x = V.non))) H) (tVar 12) (tC .non))) (tVar 12) (tC (.str "value"))) tNil)) (tCB rRepr (tCons (tIf (tTest (tOp (fun x y H Q => y = V.non ∧ Q (.bl (!decide (x = V.non))) H) (tVar 12) (tC .non))) (tVar 14) (tOp (rIxT K) (tVar 14) (tC (.int 0)))) tNil))) σ H Q := by
  cases o with
  | none =>
    obtain rfl : vd = .non := hd
    obtain ⟨y, hp⟩ := ht
    refine ⟨_, s12, rfl, _, rfl, ?_⟩
    rw [show (!decide (V.non = V.non)) = false by simp]
    refine iteF (c_of (nil_on (rp_good (ex := []) (d := .str "value") value_good rfl ?_)))
    refine ⟨_, s12, rfl, _, rfl, ?_⟩
    rw [show (!decide (V.non = V.non)) = false by simp]
    refine iteF ⟨_, s14, c_of ⟨p, [V.str "value", y], 0, V.str "value", rfl, rfl, .inl (.inl hp), rfl, nil_on (rp_good (ex := []) (d := .str "value") value_good rfl ?_)⟩⟩
    refine ⟨rfl, _, rfl, ?_⟩
    rw [decide_eq_true rfl]
    exact q
  | some d =>
    have gd := g d rfl
    have ht : Rp ex' H d (.ref p) := ht
    have hd : Rp ex H d vd := hd
    have hn : vd ≠ .non := fun z => by
      subst z
      cases d with
      | none => cases ht
      | dict kvs => obtain ⟨_, a, e, _⟩ := hd; cases e
      | bool b => cases hd
      | int i => cases hd
      | str z => cases hd
      | list ds => obtain ⟨a, _, e, _⟩ := hd; cases e
      | tuple ds => obtain ⟨a, _, e, _⟩ := hd; cases e
    have e1 : (!decide (vd = V.non)) = true := by rw [decide_eq_false hn]; rfl
    refine ⟨_, s12, rfl, _, rfl, ?_⟩
    rw [e1]
    refine iteT ⟨_, s12, nil_on (rp_good gd hd ?_)⟩
    refine ⟨_, s12, rfl, _, rfl, ?_⟩
    rw [e1]
    refine iteT ⟨_, s14, nil_on (rp_good gd ht ?_)⟩
    refine ⟨rfl, _, rfl, ?_⟩
    rw [decide_eq_true rfl]
    exact q
/-! ### the log that is given -/
def GivenD (es : List Ent) (bad : Bool) (d : PyData) : Prop := if bad then niceD d = true ∧ logD' d = false ∧ d.canLay0 = true ∧ d.depth ≤ 64 ∧ PyData.eqv d (logD es) = false else d = logD es
theorem GivenD.v {ex : List Addr} {H : Hp} {es : List Ent} {bad : Bool} {d : PyData} {v : V} (h : GivenD es bad d) (r : Rp ex H d v) : GivenV ex H es bad v := by
  cases bad with
  | true => exact ⟨d, r, h.1, h.2.1⟩
  | false =>
    obtain rfl : d = logD es := h
    exact r
theorem given_ne {K : PySem.W.Frag} {ex ex' : List Addr} {H : Hp} {es : List Ent} {bad : Bool} {d : PyData} {v u : V} {Q : VK} (ok : ∀ e ∈ es, e.Ok) (h : GivenD es bad d) (hv : Rp ex H d v) (hu : Rp ex' H (logD es) u) (q : Q (.bl bad) H) : rNeD K v u H Q := by
  cases bad with
  | true =>
    obtain ⟨h1, _, h3, h4, h5⟩ := h
    refine ⟨_, _, Rp.dp _ _ h1 h3 hv, Rp.dp _ _ (log_nice ok).1 (lay_logD ok) hu, ?_, shaped_log ok, ?_⟩
    · unfold SeqAt.shaped
      rw [h3]
      exact decide_eq_true h4
    · have e : PyData.eqv d (PyData.tuple (es.map Ent.data)) = false := h5
      rw [e]
      exact q
  | false =>
    obtain rfl : d = logD es := h
    exact ne_logs ok hv hu q
theorem eqv_len : ∀ {xs ys : List PyData}, xs.length ≠ ys.length → PyData.eqvAll xs ys = false
  | [], [], h => absurd rfl h
  | [], _ :: _, _ => by simp [PyData.eqvAll]
  | _ :: _, [], _ => by simp [PyData.eqvAll]
  | x :: xs, y :: ys, h => by
    have := eqv_len (xs := xs) (ys := ys) fun e => h (by rw [List.length_cons, List.length_cons, e])
    simp [PyData.eqvAll, this]
theorem given_non {es : List Ent} : GivenD es true .none := ⟨rfl, rfl, rfl, by simp only [PyData.depth]; omega, by simp [logD, PyData.eqv]⟩
theorem given_lst {es : List Ent} (ok : ∀ e ∈ es, e.Ok) : GivenD es true (.list (es.map Ent.data)) := by
  have h1 := (log_nice ok).1
  have h2 := (log_nice ok).2.1
  have h3 := lay_logD ok
  refine ⟨by simpa only [logD, niceD] using h1, rfl, by simpa only [logD, PyData.canLay0] using h3, ?_, by simp [logD, PyData.eqv]⟩
  have h2 : PyData.depth (.tuple (es.map Ent.data)) ≤ 3 := h2
  simp only [PyData.depth] at h2 ⊢
  omega
theorem lay_snoc : ∀ {ds : List PyData}, PyData.canLayAll0 ds = true → PyData.canLayAll0 (ds ++ [PyData.none]) = true
  | [], _ => by simp [PyData.canLayAll0, PyData.canLay0]
  | d :: ds, h => by
    simp only [PyData.canLayAll0, Bool.and_eq_true, List.cons_append] at h ⊢
    exact ⟨h.1, lay_snoc h.2⟩
theorem deep_snoc : ∀ {ds : List PyData} {n : Nat}, PyData.depthAll ds ≤ n → PyData.depthAll (ds ++ [PyData.none]) ≤ n
  | [], n, _ => by simp [PyData.depthAll, PyData.depth]
  | d :: ds, n, h => by
    simp only [PyData.depthAll, List.cons_append] at h ⊢
    have h1 := Nat.le_trans (Nat.le_max_left _ _) h
    have h2 := Nat.le_trans (Nat.le_max_right _ _) h
    exact Nat.max_le.mpr ⟨h1, deep_snoc h2⟩
theorem given_snoc {es : List Ent} (ok : ∀ e ∈ es, e.Ok) : GivenD es true (.tuple (es.map Ent.data ++ [.none])) := by
  have h1 : niceAll (es.map Ent.data) = true := by simpa only [logD, niceD] using (log_nice ok).1
  have h2 : PyData.depth (.tuple (es.map Ent.data)) ≤ 3 := (log_nice ok).2.1
  have h3 : PyData.canLayAll0 (es.map Ent.data) = true := by simpa only [logD, PyData.canLay0] using lay_logD ok
  refine ⟨?_, log_bad rfl, ?_, ?_, ?_⟩
  · simp only [niceD]
    exact nice_snoc h1 rfl
  · simp only [PyData.canLay0]
    exact lay_snoc h3
  · simp only [PyData.depth] at h2 ⊢
    have := deep_snoc (ds := es.map Ent.data) (n := 2) (by omega)
    omega
  · have := eqv_len (xs := es.map Ent.data ++ [PyData.none]) (ys := es.map Ent.data) (by rw [List.length_append]; simp)
    simp only [logD, PyData.eqv]
    exact this
/-! ### a row of drawn values -/
theorem vols_le : ∀ {ds : List PyData}, (∀ d ∈ ds, VOk d) → volAll ds ≤ 102 * ds.length ∧ PyData.depthAll ds ≤ 1 ∧ niceAll ds = true
  | [], _ => ⟨Nat.zero_le _, by simp only [PyData.depthAll]; omega, rfl⟩
  | d :: ds, h => by
    obtain ⟨h1, h2, h3⟩ := vols_le (ds := ds) fun x hx => h x (List.mem_cons_of_mem _ hx)
    obtain ⟨a, b, c⟩ := h d List.mem_cons_self
    refine ⟨?_, ?_, ?_⟩
    · simp only [volAll, List.length_cons]
      omega
    · simp only [PyData.depthAll]
      exact Nat.max_le.mpr ⟨b, h2⟩
    · simp only [niceAll, Bool.and_eq_true]
      exact ⟨a, h3⟩
theorem bok_list {ds : List PyData} (h : ∀ d ∈ ds, VOk d) (hl : ds.length ≤ 15) : BOk (.list ds) ∧ BOk (.tuple ds) := by
  obtain ⟨h1, h2, h3⟩ := vols_le h
  refine ⟨⟨by simp only [niceD]; exact h3, by simp only [PyData.depth]; omega, by simp only [vol]; omega⟩, ⟨by simp only [niceD]; exact h3, by simp only [PyData.depth]; omega, by simp only [vol]; omega⟩⟩
end NV
/-! C04c -/
set_option Elab.async false
set_option linter.all false
set_option maxRecDepth 100000
set_option maxHeartbeats 1000000
/-! the law of refusals: the parts of a target, what is due -/
namespace NV
open PySem PySem.Spec PyProof.Rows L2
open C8 (pss_cut pe_gc)
section
variable {K : PySem.W.Frag} {σ : L2.St} {H : Hp} {Q : VK} {ex : List Addr} {es : List Ent} {dd dt dg dr dc : PyData} {v u g y1 : V} {p t : Addr} {bad : Bool} {x y : V}
theorem parts_ok (s8 : σ[8]? = some (some u)) (rt : Rp ex H dt u) (bt : BOk dt) (q : ∀ t x y dr dc H', Kp [] H H' → H' t = some (.tup [x, y]) → Rp ex H' dr x → Rp ex H' dc y → BOk dr → BOk dc → Q (.ref t) H') :
    tIf (tAnd (tB (tCB (rIsD "tuple") (tCons (tVar 8) (tCons (tC (.ty "tuple")) tNil)))) (tTest (tOp rEq (tCB (fun xs H Q => ∃ p ys, xs = [V.ref p] ∧ (SqL K H p ys ∨ SqT K H p ys) ∧ Q (V.int ys.length) H) (tCons (tVar 8) tNil)) (tC (.int 2))))) (tVar 8) (tTup (tCons (tC (.str "")) (tCons (tVar 8) tNil))) σ H Q := by
  have two : 2 ≤ sizeLine := by decide
  have bs : BOk (.str "") := (str_vok (by decide) (by decide +kernel)).b
  have other : tTup (tCons (tC (.str "")) (tCons (tVar 8) tNil)) σ H Q := ⟨_, s8, two, fun T nT => q T (.str "") u (.str "") dt _ (Kp.laid nT) upd_same rfl (Rp.keep (Kp.laid nT) _ _ rt) bs bt⟩
  refine ⟨_, s8, u, dt, ex, rfl, rt, _, rfl, ?_⟩
  cases ht : isD "tuple" dt with
  | false => exact iteF (iteF other)
  | true =>
  cases dt with
  | tuple ds =>
    obtain ⟨t, us, rfl, nt, hut, hus⟩ := id rt
    refine iteT ⟨_, s8, t, us, rfl, .inr (.inl (.inl hut)), rfl, _, rfl, ?_⟩
    have hlen := hus.length
    by_cases h2 : ds.length = 2
    · match ds, us, h2, hus, bt with
      | [r, c], _, _, ⟨x, _, rfl, rx, y, _, rfl, ry, rfl⟩, bt =>
      rw [show decide (V.int (([x, y] : List V).length : Nat) = V.int 2) = true from rfl]
      exact iteT ⟨_, s8, q t x y r c H Kp.refl hut rx ry (bt.itemT (show r ∈ [r, c] by simp)) (bt.itemT (show c ∈ [r, c] by simp))⟩
    · rw [decide_eq_false (show ¬ V.int (us.length : Nat) = V.int 2 from fun h => by have := V.int.inj h; omega)]
      exact iteF other
  | _ => simp [isD, tyN] at ht
theorem first_ok (s10 : σ[10]? = some (some v)) (s4 : σ[4]? = some (some (.ref p))) (s7 : σ[7]? = some (some g)) (gd : GivenD es bad dd) (rv : Rp ex H dd v) (rp : Rp ex H (logD es) (.ref p)) (ok : LogOk es) (h60 : es.length ≤ 60) (rg : Rp ex H dg g) (ng : niceD dg = true) (lv : Live ex H)
    (q : ∀ y H', Kp [] H H' → Due ex H' (toldO bad (goneE es dg)) y → Q y H') :
    tIf (tTest (tOp (rNeD K) (tVar 10) (tVar 4))) (tTup (tCons (tC (.str "log")) (tCons (tC (.bl true)) tNil))) (tCall spGoneExp [] (fun _ _ _ => False) (tCons (tVar 4) (tCons (tVar 7) tNil))) σ H Q := by
  have two : 2 ≤ sizeLine := by decide
  refine ⟨_, s10, _, s4, given_ne ok.ok gd rv rp ⟨_, rfl, ?_⟩⟩
  cases bad with
  | true => exact iteT ⟨two, fun T nT => q (.ref T) _ (Kp.laid nT) ⟨T, _, rfl, lv.fresh nT, upd_same, .str "log", [.bl true], rfl, rfl, .bl true, [], rfl, rfl, rfl⟩⟩
  | false => exact iteF ⟨_, s4, _, s7, .ref p, g, es, dg, ex, rfl, rp, ok, h60, rg, ng, lv, fun y H' k e => q y H' k (due_of e)⟩
theorem told_two {o : Option (Nat × PyData)} {d : PyData} (h : toldO bad o = some d) : ∃ a b, d = .tuple [a, b] := by
  cases bad with
  | true => cases h; exact ⟨_, _, rfl⟩
  | false =>
    cases o with
    | none => cases h
    | some r => cases h; exact ⟨_, _, rfl⟩
theorem or_ok {tb : TE} {o : Option (Nat × PyData)} (s11 : σ[11]? = some (some y1)) (hd : Due ex H (toldO bad o) y1) (q1 : ∀ d, toldO bad o = some d → Q y1 H) (q2 : toldO bad o = none → tb σ H Q) : tOrT K (tVar 11) tb σ H Q := by
  cases e : toldO bad o with
  | none =>
    rw [e] at hd
    obtain rfl : y1 = .non := hd
    exact ⟨_, s11, false, rfl, iteF (q2 e)⟩
  | some d =>
    obtain ⟨a, b, rfl⟩ := told_two e
    rw [e] at hd
    obtain ⟨a', us, rfl, n, ha, x1, us2, rfl, _, x2, us3, rfl, _, rfl⟩ := (show Rp ex H (.tuple [a, b]) y1 from hd)
    exact ⟨_, s11, true, .inr (.inl ⟨_, .inl (.inl ha), rfl⟩), iteT (q1 _ e)⟩
theorem dueG_ok (s11 : σ[11]? = some (some y1)) (s4 : σ[4]? = some (some v)) (s8 : σ[8]? = some (some u)) (hd : Due ex H (toldO bad (goneE es dg)) y1) (rp : Rp ex H (logD es) v) (ok : LogOk es) (h60 : es.length ≤ 60) (rt : Rp ex H dt u) (nt : niceD dt = true) (lv : Live ex H)
    (q : ∀ y H', Kp [] H H' → Due ex H' (toldO bad (depE es dg dt)) y → Q y H') :
    tOrT K (tVar 11) (tCall spGoalExp [] (fun _ _ _ => False) (tCons (tVar 4) (tCons (tVar 8) tNil))) σ H Q := by
  refine or_ok s11 hd (fun d e => q y1 H Kp.refl ?_) (fun e => ⟨_, s4, _, s8, v, u, es, dt, ex, rfl, rp, ok, h60, rt, nt, lv, fun y H' k e2 => q y H' k ?_⟩)
  · cases bad with
    | true => exact hd
    | false =>
      have e : outD (goneE es dg) = some d := e
      have hd : Due ex H (outD (goneE es dg)) y1 := hd
      show Due ex H (outD (depE es dg dt)) y1
      unfold depE
      cases hg : goneE es dg with
      | none => rw [hg] at e; cases e
      | some r => rw [hg] at hd; exact hd
  · cases bad with
    | true => cases e
    | false =>
      have e : outD (goneE es dg) = none := e
      show Due ex H' (outD (depE es dg dt)) y
      unfold depE
      cases hg : goneE es dg with
      | none => exact due_of e2
      | some r => rw [hg] at e; cases e
theorem dueR_ok (s11 : σ[11]? = some (some y1)) (s4 : σ[4]? = some (some v)) (s7 : σ[7]? = some (some g)) (s9 : σ[9]? = some (some (.ref t))) (hd : Due ex H (toldO bad (goneE es dg)) y1) (rp : Rp ex H (logD es) v) (ok : LogOk es) (h60 : es.length ≤ 60) (rg : Rp ex H dg g) (ht : H t = some (.tup [x, y])) (rr : Rp ex H dr x) (rc : Rp ex H dc y) (nc : niceD dc = true) (lv : Live ex H)
    (q : ∀ y H', Kp [] H H' → Due ex H' (toldO bad (srcE es dg dr dc)) y → Q y H') :
    tOrT K (tVar 11) (tCall (spReadExp K) [] (fun _ _ _ => False) (tCons (tVar 4) (tCons (tVar 7) (tCons (tOp (rIxT K) (tVar 9) (tC (.int 0))) (tCons (tOp (rIxT K) (tVar 9) (tC (.int 1))) tNil))))) σ H Q := by
  refine or_ok s11 hd (fun d e => q y1 H Kp.refl ?_) (fun e => ?_)
  · cases bad with
    | true => exact hd
    | false =>
      have e : outD (goneE es dg) = some d := e
      have hd : Due ex H (outD (goneE es dg)) y1 := hd
      show Due ex H (outD (srcE es dg dr dc)) y1
      rw [srcE_rd]
      cases hg : goneE es dg with
      | none => rw [hg] at e; cases e
      | some r => rw [hg] at hd; exact hd
  · cases bad with
    | true => cases e
    | false =>
      have e : outD (goneE es dg) = none := e
      cases hg : goneE es dg with
      | some r => rw [hg] at e; cases e
      | none =>
        obtain ⟨ga, b, rfl, nm, gok⟩ := gone_ok (K := K) ok.nd hg rg
        refine ⟨_, s4, _, s7, _, s9, ⟨t, [x, y], 0, x, rfl, rfl, .inl (.inl ht), rfl, _, s9, ⟨t, [x, y], 1, y, rfl, rfl, .inl (.inl ht), rfl, v, x, y, ga, b, namesD dg, es, dr, dc, ex, rfl, rp, ok, h60, nm, rr, rc, nc, lv, fun y' H' k e2 => q y' H' k ?_⟩⟩⟩
        show Due ex H' (outD (srcE es dg dr dc)) y'
        rw [srcE_rd, hg]
        exact due_of e2
end
end NV
/-! C04 -/
set_option Elab.async false
set_option linter.all false
set_option maxRecDepth 100000
set_option maxHeartbeats 2000000
/-! the law: retractions and targets refused -/
namespace NV
open PySem PySem.Spec PyProof.Rows L2
open C8 (pss_cut pe_gc)
abbrev sLaw : Stmt := topS 62
theorem scLaw : FnScope ["script", "draw", "turn", "spots", "book", "names", "coins", "gone", "goal", "parts", "given", "first", "due", "found", "told", "name", "entry", "coin"] ["script"] (defScope sLaw) := ⟨rfl, rfl, rfl, by decide +kernel, rfl, by decide +kernel, by decide +kernel⟩
def spLaw (K : PySem.W.Frag) (PL : Addr) : Sp := fun vs H Q _ => ∃ (a : Addr) (ns : List Int), vs = [.ref a] ∧ SqL K H a (ns.map V.int) ∧ ns.length ≤ 63 ∧ TabL PL "law" H ∧ ∀ H', Q (.bl true) H'
theorem tab_upd {PL l : Addr} {nm : Str} {H : Hp} {xs : List V} {o : HO} (t : TabL PL nm H) (h : H l = some (.lst xs)) : TabL PL nm (upd H l o) := by
  obtain ⟨ps, t1, t2, t3⟩ := t
  refine ⟨ps, ?_, t2, fun pos cv e => ?_⟩
  · rw [upd_ne (fun z => by rw [z, h] at t1; cases t1)]; exact t1
  · obtain ⟨c, e1, e2⟩ := t3 pos cv e
    exact ⟨c, e1, by rw [upd_ne (fun z => by rw [z, h] at e2; unfold LamX.CodeO at e2; cases e2)]; exact e2⟩
/-- what stands in a turn -/
structure Env4 (PL : Addr) (D : Dr) (es : List Ent) (ys : List Str) (p c : Addr) (H : Hp) : Prop where
  rp : Rp D.ex H (logD es) (.ref p)
  sp : H c = some (.lst (ys.map V.str))
  tab : TabL PL "law" H
  cD : c ∉ D.all
section
variable {PL : Addr} {D : Dr} {es : List Ent} {ys : List Str} {p c : Addr} {H H' : Hp} {n : Nat}
theorem Env4.kp (h : Env4 PL D es ys p c H) (d : DrAt D n H) (k : Kp D.ex H H') : Env4 PL D es ys p c H' := ⟨Rp.keep k _ _ h.rp, k _ _ (Dr.sub h.cD) h.sp, h.tab.dr d k, h.cD⟩
theorem Env4.ext (h : Env4 PL D es ys p c H) (k : LamX.ExtN H H') (t : TabL PL "law" H') : Env4 PL D es ys p c H' := ⟨Rp.extN k _ _ h.rp, k _ _ h.sp (fun _ z => by cases z), t, h.cD⟩
end
theorem BOkV.ext {ex : List Addr} {H H' : Hp} {y : V} (h : BOkV ex H y) (k : LamX.ExtN H H') : BOkV ex H' y := let ⟨d, r, o⟩ := h; ⟨d, Rp.extN k _ _ r, o⟩
section
variable {P : Program} {w : World} {K : PySem.W.Frag} {mg : Str → Option Value} {base : Heap}
theorem ok_law {cL PL : Addr} {Ae : ErrAt} (DLaw : Fn K mg "law" sLaw ["script"]) (CLaw : CodeOf K "law" sLaw DLaw.f DLaw.fd cL) (DLawBegin : Fn K mg "_law_begin" sLawBegin ["script"]) (DLawTake : Fn K mg "_law_take" sLawTake ["draw", "size"]) (DLawPick : Fn K mg "_law_pick" sLawPick ["draw", "some"]) (DLawCells : Fn K mg "_law_cells" sLawCells ["draw", "many"]) (DLawLog : Fn K mg "_law_log" sLawLog ["draw", "many", "cells"])
    (DLawGoal : Fn K mg "_law_goal" sLawGoal ["draw", "book", "spots"]) (DLawGoneExpected : Fn K mg "_law_gone_expected" sLawGoneExpected ["book", "gone"]) (DLawGoalExpected : Fn K mg "_law_goal_expected" sLawGoalExpected ["book", "goal"]) (DLawReadExpected : Fn K mg "_law_read_expected" sLawReadExpected ["book", "gone", "reader", "spot"]) (DLawResult : Fn K mg "_law_result" sLawResult ["work"])
    (DDependencies : FnF K mg "dependencies" sDependencies) (DDependencySet : FnF K mg "dependency_set" sDependencySet) (DSourceOf : FnF K mg "source_of" sSourceOf) (BDependencies2 : KBn K DDependencies.fd ["log", "target", "retracted"] 2 ["retracted"] (· ++ ·) (· ++ ·)) (BDependencySet2 : KBn K DDependencySet.fd ["log", "target", "retracted"] 2 ["retracted"] (· ++ ·) (· ++ ·)) (BSourceOf3 : KBn K DSourceOf.fd ["log", "reader", "cell", "retracted"] 3 ["retracted"] (· ++ ·) (· ++ ·))
    (b_len : mg "len" = none) (b_range : mg "range" = none) (b_min : mg "min" = none) (b_isinstance : mg "isinstance" = none) (b_repr : mg "repr" = none) (b_list : mg "list" = none) (b_tuple : mg "tuple" = none) (b_zip : mg "zip" = none) (b_ValueError : mg "ValueError" = none)
    (Te : ErrTop mg Ae) (f0 : ErrFld K Ae 0 "entry_id") (f1 : ErrFld K Ae 1 "cell") (f2 : ErrFld K Ae 2 "entry_id") (f3 : ErrFld K Ae 3 "entry_id") (cl0 : ErrCls K Ae 0) (cl1 : ErrCls K Ae 1) (cl2 : ErrCls K Ae 2) (cl4 : ErrCls K Ae 4) (TB : LamX.TabB base mg cL PL)
    (GLawBegin : FnOk P w K mg base CX0 1 DLawBegin.f DLawBegin.fd ["script"] (spBegin K)) (GLawTake : FnOk P w K mg base CX0 2 DLawTake.f DLawTake.fd ["draw", "size"] spTake) (GLawPick : FnOk P w K mg base CX0 3 DLawPick.f DLawPick.fd ["draw", "some"] (spPick K)) (GLawCells : FnOk P w K mg base CX0 3 DLawCells.f DLawCells.fd ["draw", "many"] spCells)
    (GLawLog : FnOk P w K mg base CX0 5 DLawLog.f DLawLog.fd ["draw", "many", "cells"] (spLog K)) (GLawGoal : FnOk P w K mg base CX0 4 DLawGoal.f DLawGoal.fd ["draw", "book", "spots"] spGoal4) (GLawGoneExpected : FnOk P w K mg base CX0 1 DLawGoneExpected.f DLawGoneExpected.fd ["book", "gone"] spGoneExp)
    (GLawGoalExpected : FnOk P w K mg base CX0 2 DLawGoalExpected.f DLawGoalExpected.fd ["book", "goal"] spGoalExp) (GLawReadExpected : FnOk P w K mg base CX0 2 DLawReadExpected.f DLawReadExpected.fd ["book", "gone", "reader", "spot"] (spReadExp K))
    (XDependencies : FnOk P w K mg base (L2.CX P w) 8 DDependencies.f DDependencies.fd ["log", "target", "retracted"] (fun vs H Q E => spDepX Ae.no vs H Q E ∨ spBadN Ae.log 2 vs H Q E))
    (XDependencySet : FnOk P w K mg base (L2.CX P w) 9 DDependencySet.f DDependencySet.fd ["log", "target", "retracted"] (fun vs H Q E => spSetX Ae.no vs H Q E ∨ spBadN Ae.log 2 vs H Q E))
    (XSourceOf : FnOk P w K mg base (L2.CX P w) 8 DSourceOf.f DSourceOf.fd ["log", "reader", "cell", "retracted"] (fun vs H Q E => spSrcX Ae.no vs H Q E ∨ spBadN Ae.log 3 vs H Q E)) :
    FnOkG P w K mg base CX0 15 DLaw.f DLaw.fd ["script"] (spLaw K PL) := by
  refine okGC CLaw scLaw (fun vs H Q E h => ?_) (fun A outer s H vs Q E hg hr h => ?_)
  · obtain ⟨a, ns, rfl, _⟩ := h
    rfl
  obtain ⟨a, ns, rfl, hS, h63, hT, q⟩ := h
  have hu80 : (A.deeper (envOfC "law" (defScope sLaw) s.heap.objs.size DLaw.f (.ref cL))).units + 80 < cLine := by have := hr.un; omega
  refine ⟨_, pss_cons (ps_set (i := 1) scLaw.nd rfl (.inr rfl) (pe_fn DLawBegin GLawBegin hr (pa_cons (pv 0) pa_nil)))
      (pss_cons (ps_for PassesOwn.never rfl (pi_range1 rfl b_range (pa_cons (pe_op op_add pe_int (pe_callB (call_min2 rfl) (by rfl) b_min (by decide +kernel) (pa_cons (pe_callB (lenVE K) (by rfl) b_len (by decide +kernel) (pa_cons (pv 0) pa_nil)) (pa_cons pe_int pa_nil)))) pa_nil)) (pg_name (i := 2) scLaw.nd rfl (.inl rfl))
      (pss_cons (ps_set (i := 3) scLaw.nd rfl (.inl rfl) (pe_fn DLawCells GLawCells hr (pa_cons (pv 1) (pa_cons (pe_op op_add pe_int (pe_fn DLawTake GLawTake hr (pa_cons (pv 1) (pa_cons pe_int pa_nil)))) pa_nil))))
      (pss_cons (ps_set (i := 4) scLaw.nd rfl (.inl rfl) (pe_fn DLawLog GLawLog hr (pa_cons (pv 1) (pa_cons (pe_fn DLawTake GLawTake hr (pa_cons (pv 1) (pa_cons pe_int pa_nil))) (pa_cons (pv 3) pa_nil)))))
      (pss_cons (ps_set (i := 5) scLaw.nd rfl (.inl rfl) (pe_op op_cat (pe_lc (own := [("entry", 16)]) (g := gName 16) (tt := tYes) (by rfl) scLaw.nd (piTupE K (pv 4)) (blkOk_by (N := ["script", "draw", "turn", "spots", "book", "names", "coins", "gone", "goal", "parts", "given", "first", "due", "found", "told", "name", "entry", "coin"]) (sc := defScope sLaw) (by decide +kernel)) (fun _ _ _ _ _ => (pg_name (i := 16) scLaw.nd rfl (.inl rfl))) (fun _ _ _ _ _ => pts_nil) (fun _ _ _ _ _ => (pe_ix (ixtE K) (pv 16) pe_int (fun _ _ => rfl)))) (pe_lst (pa_cons pe_str pa_nil))))
      (pss_cons (ps_setLc (i := 6) (own := [("name", 15)]) (g := gName 15) (tt := tYes) (by rfl) scLaw.nd rfl rfl (sw_true rfl rfl rfl (by decide +kernel)) (piListE K (pv 5)) (blkOk_by (N := ["script", "draw", "turn", "spots", "book", "names", "coins", "gone", "goal", "parts", "given", "first", "due", "found", "told", "name", "entry", "coin"]) (sc := defScope sLaw) (by decide +kernel)) (fun _ _ _ _ _ => (pg_name (i := 15) scLaw.nd rfl (.inl rfl))) (fun _ _ _ _ _ => pts_nil) (fun _ _ _ _ _ => (pe_fn DLawTake GLawTake hr (pa_cons (pv 1) (pa_cons pe_int pa_nil)))))
      (pss_cons (ps_set (i := 7) scLaw.nd rfl (.inr rfl) (pe_lc (own := [("name", 15), ("coin", 17)]) (g := gTup K 2 (gCons (gName 15) (gCons (gName 17) gNil))) (by rfl) scLaw.nd (pi_zip (by rfl) b_zip (pa_cons (pv 5) (pa_cons (pv 6) pa_nil))) (blkOk_by (N := ["script", "draw", "turn", "spots", "book", "names", "coins", "gone", "goal", "parts", "given", "first", "due", "found", "told", "name", "entry", "coin"]) (sc := defScope sLaw) (by decide +kernel)) (fun _ _ _ _ _ => (pg_tupE K (by rfl) (pgs_cons (pg_name (i := 15) scLaw.nd rfl (.inl rfl)) (pgs_cons (pg_name (i := 17) scLaw.nd rfl (.inl rfl)) pgs_nil)))) (fun _ _ _ _ _ => (pts_one (pt_cmpR op_eq (pv 17) pe_int (nomark _)))) (fun _ _ _ _ _ => (pv 15))))
      (pss_cut (ps_if (pt_cmpR op_eq (pe_fn DLawTake GLawTake hr (pa_cons (pv 1) (pa_cons pe_int pa_nil))) pe_int (nomark _))
      (pss_one (ps_expr (bmE K PySem.F.plainAttrs_list PySem.F.slot_list_append PySem.F.type_list_append mt_append (pv 7) (pa_cons (pe_fn DLawPick GLawPick hr (pa_cons (pv 1) (pa_cons (pe_lst (pa_cons pe_non (pa_cons pe_str (pa_cons pe_str (pa_cons pe_str (pa_cons pe_int (pa_cons (pe_lst (pa_cons pe_str pa_nil)) (pa_cons pe_bl (pa_cons (pe_tup (pa_cons pe_str pa_nil)) (pa_cons pe_dnewK pa_nil)))))))))) pa_nil))) pa_nil))))
      pss_nil)
      (pss_cons (ps_set (i := 7) scLaw.nd rfl (.inr rfl) (pe_fn DLawPick GLawPick hr (pa_cons (pv 1) (pa_cons (pe_op op_cat (pe_op op_rep (pe_lst (pa_cons (pv 7) pa_nil)) pe_int) (pe_lst (pa_cons (pe_callTy call_tuple_of (by rfl) b_tuple (by decide +kernel) (pa_cons (pv 7) pa_nil)) (pa_cons pe_non (pa_cons pe_str (pa_cons pe_dnewK (pa_cons pe_int pa_nil))))))) pa_nil))))
      (pss_cons (ps_set (i := 8) scLaw.nd rfl (.inr rfl) (pe_fn DLawGoal GLawGoal hr (pa_cons (pv 1) (pa_cons (pv 4) (pa_cons (pv 3) pa_nil)))))
      (pss_cons (ps_set (i := 9) scLaw.nd rfl (.inr rfl) (pe_ifExp (PW.pt (pw_and (pt_val (pe_callB (cr_isD (T := "tuple") (by decide)) (by rfl) b_isinstance (by decide +kernel) (pa_cons (pv 8) (pa_cons (pe_bltn (v := .ty "tuple") rfl b_tuple (by rfl) rfl) pa_nil)))) (pw_and1 (pt_cmpR op_eq (pe_callB (lenE K) (by rfl) b_len (by decide +kernel) (pa_cons (pv 8) pa_nil)) pe_int (nomark _))))) (pv 8) (pe_tup (pa_cons pe_str (pa_cons (pv 8) pa_nil)))))
      (pss_cons (ps_set (i := 10) scLaw.nd rfl (.inr rfl) (pe_fn DLawPick GLawPick hr (pa_cons (pv 1) (pa_cons (pe_op op_cat (pe_op op_rep (pe_lst (pa_cons (pv 4) pa_nil)) pe_int) (pe_lst (pa_cons (pe_callTy (listE K) (by rfl) b_list (by decide +kernel) (pa_cons (pv 4) pa_nil)) (pa_cons (pe_op op_catA (pv 4) (pe_tup (pa_cons pe_non pa_nil))) (pa_cons pe_non pa_nil))))) pa_nil))))
      (pss_cons (ps_set (i := 11) scLaw.nd rfl (.inl rfl) (pe_ifExp (pt_cmpR (neDE K hr.units) (pv 10) (pv 4) (nomark _)) (pe_tup (pa_cons pe_str (pa_cons pe_bl pa_nil))) (pe_fn DLawGoneExpected GLawGoneExpected hr (pa_cons (pv 4) (pa_cons (pv 7) pa_nil)))))
      (pss_cons (ps_set (i := 12) scLaw.nd rfl (.inl rfl) (pe_orT (pv 11) (pe_one (pe_fn DLawGoalExpected GLawGoalExpected hr (pa_cons (pv 4) (pa_cons (pv 8) pa_nil))))))
      (pss_cons (ps_set (i := 13) scLaw.nd rfl (.inl rfl) (pe_lst (pa_cons (pe_lamres (A := Ae) (nm := "law") (c := cL) (P := PL) DLawResult Te b_isinstance b_ValueError f0 f1 f2 f3 TB hr (fun A9 o9 s9 H9 E9 f9 c9 hr9 => (pe_qx DDependencies BDependencies2 XDependencies hr9 (takes_of rfl rfl rfl rfl) (pa_cons (pv 10) (pa_cons (pv 8) pa_nil)) (pk_cons (pv 7) pk_nil)))) pa_nil)))
      (pss_cons (ps_expr (bmE K PySem.F.plainAttrs_list PySem.F.slot_list_append PySem.F.type_list_append mt_append (pv 13) (pa_cons (pe_lamres (A := Ae) (nm := "law") (c := cL) (P := PL) DLawResult Te b_isinstance b_ValueError f0 f1 f2 f3 TB hr (fun A9 o9 s9 H9 E9 f9 c9 hr9 => (pe_qx DDependencySet BDependencySet2 XDependencySet hr9 (takes_of rfl rfl rfl rfl) (pa_cons (pv 10) (pa_cons (pv 8) pa_nil)) (pk_cons (pv 7) pk_nil)))) pa_nil)))
      (pss_cons (ps_for PassesOwn.never rfl (piListE K (pv 13)) (pg_name (i := 14) scLaw.nd rfl (.inl rfl))
      (pss_one (ps_if (pt_cmpR op_ne (pe_callB (cr_repr hg hu80) (by rfl) b_repr (by decide +kernel) (pa_cons (pe_ifExp (pt_cmpR op_notN (pv 12) pe_non (nomark _)) (pv 12) pe_str) pa_nil)) (pe_callB (cr_repr hg hu80) (by rfl) b_repr (by decide +kernel) (pa_cons (pe_ifExp (pt_cmpR op_notN (pv 12) pe_non (nomark _)) (pv 14) (pe_ix (ixtE K) (pv 14) pe_int (fun _ _ => rfl))) pa_nil)) (nomark _))
      (pss_one (ps_ret pe_bl))
      pss_nil)))
      (pss_cons (ps_set (i := 12) scLaw.nd rfl (.inl rfl) (pe_orT (pv 11) (pe_one (pe_fn DLawReadExpected GLawReadExpected hr (pa_cons (pv 4) (pa_cons (pv 7) (pa_cons (pe_ix (ixtE K) (pv 9) pe_int (fun _ _ => rfl)) (pa_cons (pe_ix (ixtE K) (pv 9) pe_int (fun _ _ => rfl)) pa_nil))))))))
      (pss_cons (ps_set (i := 14) scLaw.nd rfl (.inl rfl) (pe_lamres (A := Ae) (nm := "law") (c := cL) (P := PL) DLawResult Te b_isinstance b_ValueError f0 f1 f2 f3 TB hr (fun A9 o9 s9 H9 E9 f9 c9 hr9 => (pe_qx DSourceOf BSourceOf3 XSourceOf hr9 (takes_of rfl rfl rfl rfl) (pa_cons (pv 10) (pa_cons (pe_ix (ixtE K) (pv 9) pe_int (fun _ _ => rfl)) (pa_cons (pe_ix (ixtE K) (pv 9) pe_int (fun _ _ => rfl)) pa_nil))) (pk_cons (pv 7) pk_nil)))))
      (pss_one (ps_if (pt_cmpR op_ne (pe_callB (cr_repr hg hu80) (by rfl) b_repr (by decide +kernel) (pa_cons (pe_ifExp (pt_cmpR op_notN (pv 12) pe_non (nomark _)) (pv 12) pe_str) pa_nil)) (pe_callB (cr_repr hg hu80) (by rfl) b_repr (by decide +kernel) (pa_cons (pe_ifExp (pt_cmpR op_notN (pv 12) pe_non (nomark _)) (pv 14) (pe_ix (ixtE K) (pv 14) pe_int (fun _ _ => rfl))) pa_nil)) (nomark _))
      (pss_one (ps_ret pe_bl))
      pss_nil))))))))))))))))))))
      (pss_one (ps_ret pe_bl))), ?_⟩
  refine ⟨_, rfl, a, ns, rfl, hS, h63, fun D H0 k0 nd nl nit dr => ?_⟩
  have hT0 : TabL PL "law" H0 := hT.keep k0
  refine ⟨_, rfl, .ref a, ns.length, rfl, .inl ⟨_, Kp.seqL k0 (by simp) hS, by rw [List.length_map]⟩, (ns.length : Int), 20, rfl, 8, _, rfl, rfl, _, rfl, by split <;> omega, by split <;> omega, ?_⟩
  have turns : ((8 : Int) + (if (20 : Int) < (ns.length : Int) then 20 else (ns.length : Int))).toNat ≤ 28 := by split <;> omega
  generalize ((8 : Int) + (if (20 : Int) < (ns.length : Int) then 20 else (ns.length : Int))).toNat = tn at turns ⊢
  have line : (100000 : Nat) < sizeLine := by decide
  have upk : ∀ {Ha Hb : Hp}, Kp [] Ha Hb → Kp D.ex Ha Hb := fun k => k.mono (by simp)
  have kx : ∀ {Ha Hb : Hp}, Kp [] Ha Hb → LamX.ExtN Ha Hb := fun k => LamX.ExtN.of fun b o z => k b o (by simp) z
  refine for_range (fun i σ H' => ∃ v2 v3 v4 v5 v6 v7 v8 v9 v10 v11 v12 v13 v14 : Option V, σ = [some (.ref a), some (.ref D.d), v2, v3, v4, v5, v6, v7, v8, v9, v10, v11, v12, v13, v14, none, none, none] ∧ DrAt D (900000000 - i * 10000) H' ∧ TabL PL "law" H') ⟨none, none, none, none, none, none, none, none, none, none, none, none, none, rfl, dr.less (by omega), hT0⟩ ?_ ?_
  · rintro i σ H1 hi ⟨v2, v3, v4, v5, v6, v7, v8, v9, v10, v11, v12, v13, v14, rfl, d1, t1⟩
    have hi28 : i < 28 := by omega
    refine ⟨_, rfl, _, rfl, D, 899999999 - i * 10000, 3, rfl, by decide, by decide, d1.less (by omega), fun ci Hb c0 c1 kb db => ?_⟩
    obtain ⟨cn, rfl⟩ := Int.eq_ofNat_of_zero_le c0
    refine ⟨2, (cn : Int), rfl, rfl, D, 899999990 - i * 10000, 2 + cn, by rw [Int.natCast_add]; rfl, by omega, db.less (by omega), fun ys c Hc hya hys hyl nc ec kc dc => ?_⟩
    refine ⟨_, rfl, _, rfl, D, 899999980 - i * 10000, 9, rfl, by decide, by decide, dc.less (by omega), fun mi Hd m0 m1 kd dd => ?_⟩
    obtain ⟨many, rfl⟩ := Int.eq_ofNat_of_zero_le m0
    have hcD : c ∉ D.all := db.fresh nc
    refine ⟨_, rfl, D, 899999700 - i * 10000, many, c, ys, D.ex, rfl, by omega, kd _ _ (Dr.sub hcD) ec, hcD, hya, fun z hz => cellPool_ok z (hys z hz), by omega, by omega, fun b hb => hb, dd.live, dd.less (by omega), fun es p He hok hlen hrp ke de => ?_⟩
    have h8 : es.length ≤ 8 := by omega
    have h60 : es.length ≤ 60 := by omega
    have k1e : Kp D.ex H1 He := (((kb.trans kc).trans kd).trans ke)
    have yvok : ∀ z ∈ ys, VOk (.str z) := fun z hz => cell_vok (cellPool_ok z (hys z hz))
    have hyl60 : ys.length ≤ 60 := by omega
    have ev : Env4 PL D es ys p c He := ⟨hrp, ke _ _ (Dr.sub hcD) (kd _ _ (Dr.sub hcD) ec), t1.dr d1 k1e, hcD⟩
    clear kb kc kd ke db dc dd k1e ec nc
    -- the names
    obtain ⟨pa, xs, epa, npa, hpa, hxs⟩ := id hrp
    obtain rfl := V.ref.inj epa
    have hxl : xs.length ≤ 60 := by rw [← hxs.len, List.length_map]; exact h60
    refine ⟨_, rfl, p, rfl, ⟨_, .inl (.inl hpa)⟩, fun nA nnA => ?_⟩
    refine lc_ents (J := Itt K p) (gs := es) (ex := D.ex) (fun e => .str e.id) (fun _ => true) (walks_tup hpa nnA) nnA hxs (by omega) (fun e x H2 Q2 hm k2 r2 q2 => q2 H2 Kp.refl) (fun e x H2 Q2 hm hp k2 r2 q2 => ?_) (fun Hn zs kn en rn => ?_) fun x => wipe_one _ _ _
    · obtain ⟨d1', ed1, hd1, _⟩ := ent_reads e
      exact ⟨_, rfl, c_of (ent_ix r2 ed1 hd1 rfl fun vi ri => q2 vi H2 Kp.refl ri)⟩
    have ez : zs = (es.map Ent.id).map V.str := by
      have h1 : es.filter (fun _ => true) = es := by simp
      rw [h1] at rn
      have h2 : es.map (fun e => PyData.str e.id) = (es.map Ent.id).map PyData.str := by rw [List.map_map]; rfl
      rw [h2] at rn
      exact strs_of rn
    rw [ez] at en
    have kn' : Kp [] He Hn := Kp.drop kn nnA
    clear rn ez kn
    have dn := de.keep kn'
    refine ⟨by show 1 ≤ sizeLine; omega, fun l1 nl1 => ?_⟩
    have k2 : Kp [] Hn (upd Hn l1 (.lst [V.str "none"])) := Kp.laid nl1
    have e2 : (upd Hn l1 (.lst [V.str "none"])) l1 = some (.lst [V.str "none"]) := upd_same
    generalize upd Hn l1 (.lst [V.str "none"]) = H2 at k2 e2 ⊢
    have nml : ((es.map Ent.id).map V.str).length ≤ 8 := by rw [List.length_map, List.length_map]; exact h8
    refine ⟨nA, l1, _, _, rfl, rfl, k2 _ _ (by simp) en, e2, by show _ + 1 ≤ sizeLine; omega, fun NP nNP => ?_⟩
    have k3 : Kp [] H2 (upd H2 NP (.lst ((es.map Ent.id).map V.str ++ [V.str "none"]))) := Kp.laid nNP
    have hN : (upd H2 NP (.lst ((es.map Ent.id).map V.str ++ [V.str "none"]))) NP = some (.lst ((es.map Ent.id ++ (["none"] : List Str)).map V.str)) := by rw [upd_same, List.map_append]; rfl
    have d2 := dn.keep k2
    have NPD := d2.fresh nNP
    have d3 := d2.keep k3
    have keN : Kp [] He (upd H2 NP (.lst ((es.map Ent.id).map V.str ++ [V.str "none"]))) := kn'.trans (k2.trans k3)
    generalize upd H2 NP (.lst ((es.map Ent.id).map V.str ++ [V.str "none"])) = H3 at k3 hN d3 keN ⊢
    have nsok : ∀ z ∈ es.map Ent.id ++ (["none"] : List Str), VOk (.str z) := fun z hz => by
      rcases List.mem_append.mp hz with y | y
      · obtain ⟨e, he, rfl⟩ := List.mem_map.mp y
        exact id_vok (hok.ok e he).idb
      · rw [List.mem_singleton.mp y]
        exact str_vok (by decide) (by decide +kernel)
    have nsl : (es.map Ent.id ++ (["none"] : List Str)).length ≤ 9 := by rw [List.length_append, List.length_map]; show _ + 1 ≤ 9; omega
    generalize hns : es.map Ent.id ++ (["none"] : List Str) = nms at hN nsok nsl
    have ev3 := ev.kp de (upk keN)
    clear ev en e2 k2 k3 kn' dn d2 nnA nl1 nNP keN hpa hxs
    -- the coins
    refine ⟨_, rfl, NP, rfl, ⟨_, .inl (.inl hN)⟩, fun CP nCP => ?_⟩
    have nCD := d3.fresh nCP
    have nNC : NP ≠ CP := fun y => by rw [← y, hN] at nCP; cases nCP
    have nNex : NP ∉ CP :: D.ex := fun y => (List.mem_cons.mp y).elim nNC (Dr.sub NPD)
    refine lc_list (K := K) (xs := nms.map V.str) (fun j H' => ∃ cs : List Int, Kp (CP :: D.ex) (upd H3 CP (.lst [])) H' ∧ H' CP = some (.lst (cs.map V.int)) ∧ cs.length = j ∧ DrAt D (899999600 - i * 10000 + (20 - j)) H')
      ⟨[], Kp.refl, upd_same, rfl, (d3.upd nCD).less (by omega)⟩ (fun j H' _ ⟨cs, kk, _⟩ => .inl (.inl (kk _ _ nNex (by rw [upd_ne nNC]; exact hN)))) (fun j x H' hx ⟨cs, kk, hC, cl, di⟩ => ?_) fun H4 ⟨cs, kk, hC, cl, d4⟩ => ?_
    · have hj : j < nms.length := by
        have := (List.getElem?_eq_some_iff.mp hx).1
        rwa [List.length_map] at this
      refine ⟨rfl, yes_on ⟨_, rfl, D, 899999600 - i * 10000 + (20 - (j + 1)), 4, rfl, by decide, by decide, di.less (by omega), fun c' H5 c0' c1' k5 d5 => ?_⟩⟩
      refine ⟨_, k5 _ _ (Dr.sub nCD) hC, by rw [List.length_map]; omega, cs ++ [c'], (kk.trans (k5.mono fun b hb => List.mem_cons_of_mem _ hb)).trans (Kp.put (by simp)), ?_, by rw [List.length_append, cl]; rfl, d5.upd nCD⟩
      rw [upd_same, List.map_append]
      rfl
    rw [List.length_map] at cl
    have k34 : Kp D.ex H3 H4 := ((Kp.laid (ex := []) (o := .lst []) nCP).mono (by simp)).trans kk |>.drop nCP
    have hN4 := kk _ _ nNex (by rw [upd_ne nNC]; exact hN)
    have ev4 := ev3.kp d3 k34
    have d4' : DrAt D (899999600 - i * 10000) H4 := d4.less (by omega)
    clear kk k34 ev3 d3 hN d4
    -- those with coin 0
    refine ⟨_, rfl, _, rfl, NP, CP, _, _, rfl, SqL.of hN4, SqL.of hC, fun FP nFP => ?_⟩
    have nFD := d4'.fresh nFP
    have dF : ∀ {H' : Hp}, Kp [FP] (upd H4 FP (.lst [])) H' → Kp [] H4 H' := fun kk => Kp.drop (((Kp.laid (ex := []) nFP).mono (by simp)).trans kk) nFP
    refine lc_inv nms.length (fun j H' => ∃ fs : List Str, Kp [FP] (upd H4 FP (.lst [])) H' ∧ H' FP = some (.lst (fs.map V.str)) ∧ (∀ z ∈ fs, z ∈ nms) ∧ fs.length ≤ j) ⟨[], Kp.refl, upd_same, (fun z hz => by cases hz), Nat.le_refl _⟩ (fun H5 ⟨fs, kk, hF, hfn, fl⟩ => ⟨⟨_, _, SqL.of (dF kk _ _ (by simp) hN4), SqL.of (dF kk _ _ (by simp) hC), .inl (by rw [List.length_map]; exact Nat.le_refl _)⟩, ?_⟩) (fun j H' hj ⟨fs, kk, _⟩ => ⟨_, _, V.str nms[j], V.int cs[j], SqL.of (dF kk _ _ (by simp) hN4), SqL.of (dF kk _ _ (by simp) hC), by rw [List.getElem?_map, List.getElem?_eq_getElem hj]; rfl, by rw [List.getElem?_map, List.getElem?_eq_getElem (by omega)]; rfl⟩) (fun j H' x H'' hj ⟨fs, kk, hF, hfn, fl⟩ ⟨T, x1, y1, e1, nT, e2, h1, h2⟩ => ?_)
    case refine_2 =>
      subst e1
      subst e2
      have h1 := h1 _ (SqL.of (dF kk _ _ (by simp) hN4))
      have h2 := h2 _ (SqL.of (dF kk _ _ (by simp) hC))
      rw [List.getElem?_map, List.getElem?_eq_getElem hj] at h1
      rw [List.getElem?_map, List.getElem?_eq_getElem (show j < cs.length by omega)] at h2
      obtain rfl := Option.some.inj h1
      obtain rfl := Option.some.inj h2
      have kT : Kp [] H' (upd H' T (.tup [.str nms[j], .int cs[j]])) := Kp.laid nT
      refine ⟨T, _, rfl, .inl (.inl upd_same), rfl, _, _, rfl, _, _, rfl, rfl, rfl, ⟨_, rfl, c_of ⟨rfl, _, rfl, ?_⟩⟩⟩
      by_cases h : V.int cs[j] = V.int 0
      · rw [decide_eq_true h]
        refine iteT ⟨_, rfl, _, kT _ _ (by simp) hF, by rw [List.length_map]; omega, fs ++ [nms[j]], (kk.trans (kT.mono (by simp))).trans (Kp.put (by simp)), ?_, fun z hz => ?_, by rw [List.length_append, List.length_singleton]; omega⟩
        · rw [upd_same, List.map_append]
          rfl
        · rcases List.mem_append.mp hz with y | y
          · exact hfn z y
          · rw [List.mem_singleton.mp y]
            exact List.getElem_mem hj
      · rw [decide_eq_false h]
        exact iteF ⟨fs, kk.trans (kT.mono (by simp)), kT _ _ (by simp) hF, hfn, by omega⟩
    have k45 := dF kk
    have ev5 := ev4.kp d4' (upk k45)
    have d5 := d4'.keep k45
    have cF : c ≠ FP := fun z => by rw [z] at ev4; rw [ev4.sp] at nFP; cases nFP
    have rpF4 : Rp (FP :: D.ex) H4 (logD es) (.ref p) := Rp.apart nFP _ _ ev4.rp
    have rpF : Rp (FP :: D.ex) H5 (logD es) (.ref p) := Rp.keep (k45.mono (by simp)) _ _ rpF4
    have fvok : ∀ d ∈ fs.map PyData.str, VOk d := fun d hd => by
      obtain ⟨z, hz, rfl⟩ := List.mem_map.mp hd
      exact nsok z (hfn z hz)
    have fll : (fs.map PyData.str).length ≤ 9 := by rw [List.length_map]; omega
    clear kk k45 ev4 rpF4 d4' hN4 hC dF
    -- something odd after them
    refine ⟨fun σ' H' => σ' = [some (.ref a), some (.ref D.d), some (.int (0 + (i : Nat))), some (.ref c), some (.ref p), some (.ref NP), some (.ref CP), some (.ref FP), v8, v9, v10, v11, v12, v13, v14, none, none, none] ∧ ∃ ds us, H' FP = some (.lst us) ∧ RpAll D.ex H' ds us ∧ (∀ d ∈ ds, VOk d) ∧ ds.length ≤ 10 ∧ Env4 PL D es ys p c H' ∧ DrAt D (899999500 - i * 10000) H', ?_, ?_⟩
    · refine ⟨_, rfl, D, 899999590 - i * 10000, 3, rfl, by decide, by decide, d5.less (by omega), fun ti H6 ti0 ti1 k6 d6 => ⟨rfl, _, rfl, ?_⟩⟩
      have ev6 := ev5.kp d5 k6
      have hF6 := k6 _ _ (Dr.sub nFD) hF
      by_cases hti : V.int ti = V.int 0
      case neg =>
        rw [decide_eq_false hti]
        exact iteF ⟨rfl, fs.map PyData.str, fs.map V.str, hF6, RpAll.strs fs, fvok, by omega, ev6, d6.less (by omega)⟩
      rw [decide_eq_true hti]
      refine iteT ⟨_, rfl, .inl ⟨rfl, _, SqL.of hF6⟩, _, rfl, by show 1 ≤ sizeLine; omega, fun l1 nl1 => ⟨by show 1 ≤ sizeLine; omega, fun u1 nu1 => fun w1 nw1 => ⟨by show 9 ≤ sizeLine; omega, fun oA noA => ?_⟩⟩⟩
      have p1 : Kp [] H6 (upd H6 l1 (.lst [V.str "a"])) := Kp.laid nl1
      have g1 : (upd H6 l1 (.lst [V.str "a"])) l1 = some (.lst [V.str "a"]) := upd_same
      have l1D := d6.fresh nl1
      have D1 := d6.keep p1
      generalize upd H6 l1 (.lst [V.str "a"]) = H7 at p1 g1 D1 nu1 nw1 noA ⊢
      have p2 : Kp [] H7 (upd H7 u1 (.tup [V.str "a"])) := Kp.laid nu1
      have g2 : (upd H7 u1 (.tup [V.str "a"])) u1 = some (.tup [V.str "a"]) := upd_same
      have u1D := D1.fresh nu1
      have D2 := D1.keep p2
      generalize upd H7 u1 (.tup [V.str "a"]) = H8 at p2 g2 D2 nw1 noA ⊢
      have p3 : Kp [] H8 (upd H8 w1 (.dK [])) := Kp.laid nw1
      have g3 : (upd H8 w1 (.dK [])) w1 = some (.dK []) := upd_same
      have w1D := D2.fresh nw1
      have D3 := D2.keep p3
      generalize upd H8 w1 (.dK []) = H9 at p3 g3 D3 noA ⊢
      have p4 : Kp [] H9 (upd H9 oA (.lst [V.non, V.str "", V.str "A", V.str "zzzzzzz", V.int 3, .ref l1, V.bl true, .ref u1, .ref w1])) := Kp.laid noA
      have g4 : (upd H9 oA (.lst [V.non, V.str "", V.str "A", V.str "zzzzzzz", V.int 3, .ref l1, V.bl true, .ref u1, .ref w1])) oA = some (.lst [V.non, V.str "", V.str "A", V.str "zzzzzzz", V.int 3, .ref l1, V.bl true, .ref u1, .ref w1]) := upd_same
      have oD := D3.fresh noA
      have D4 := D3.keep p4
      generalize upd H9 oA (.lst [V.non, V.str "", V.str "A", V.str "zzzzzzz", V.int 3, .ref l1, V.bl true, .ref u1, .ref w1]) = H10 at p4 g4 D4 ⊢
      have kO : Kp [] H6 H10 := p1.trans (p2.trans (p3.trans p4))
      have g1' := p4 _ _ (by simp) (p3 _ _ (by simp) (p2 _ _ (by simp) g1))
      have g2' := p4 _ _ (by simp) (p3 _ _ (by simp) g2)
      have g3' := p4 _ _ (by simp) g3
      have lF : l1 ≠ FP ∧ u1 ≠ FP ∧ w1 ≠ FP := ⟨fun z => (by rw [z, hF6] at nl1; cases nl1), fun z => (by rw [z, p1 _ _ (by simp) hF6] at nu1; cases nu1), fun z => (by rw [z, p2 _ _ (by simp) (p1 _ _ (by simp) hF6)] at nw1; cases nw1)⟩
      refine ⟨D, 899999550 - i * 10000, oA, _, rfl, SqL.of g4, by simp, by simp, Dr.sub oD, D4.less (by omega), fun j y H11 hy k11 d11 => ?_⟩
      have hF11 := k11 _ _ (Dr.sub nFD) (kO _ _ (by simp) hF6)
      have kFall : Kp D.ex H5 H11 := k6.trans ((upk kO).trans k11)
      have hyd : ∃ d, Rp (FP :: D.ex) H11 d y ∧ VOk d := by
        have hm := List.mem_of_getElem? hy
        simp only [List.mem_cons, List.not_mem_nil, or_false] at hm
        have str1 : ∀ {z : Str}, z.length ≤ 9 → PyData.strOk z = true → ∃ d, Rp (FP :: D.ex) H11 d (V.str z) ∧ VOk d := fun {z} h1 h2 => ⟨.str z, rfl, str_vok h1 h2⟩
        have nin : ∀ {b : Addr}, b ∉ D.all → b ≠ FP → b ∉ FP :: D.ex := fun h1 h2 z => (List.mem_cons.mp z).elim h2 (Dr.sub h1)
        rcases hm with z | z | z | z | z | z | z | z | z
        · rw [z]; exact ⟨.none, rfl, rfl, by simp only [PyData.depth]; omega, by simp only [vol]; omega⟩
        · rw [z]; exact str1 (by decide) (by decide +kernel)
        · rw [z]; exact str1 (by decide) (by decide +kernel)
        · rw [z]; exact str1 (by decide) (by decide +kernel)
        · rw [z]; exact ⟨.int 3, rfl, by decide +kernel, by simp only [PyData.depth]; omega, by decide +kernel⟩
        · rw [z]; exact ⟨.list [.str "a"], ⟨l1, _, rfl, nin l1D lF.1, k11 _ _ (Dr.sub l1D) g1', .str "a", [], rfl, rfl, rfl⟩, by decide +kernel, by decide +kernel, by decide +kernel⟩
        · rw [z]; exact ⟨.bool true, rfl, rfl, by simp only [PyData.depth]; omega, by simp only [vol]; omega⟩
        · rw [z]; exact ⟨.tuple [.str "a"], ⟨u1, _, rfl, nin u1D lF.2.1, k11 _ _ (Dr.sub u1D) g2', .str "a", [], rfl, rfl, rfl⟩, by decide +kernel, by decide +kernel, by decide +kernel⟩
        · rw [z]; exact ⟨.dict [], ⟨rfl, w1, rfl, nin w1D lF.2.2, k11 _ _ (Dr.sub w1D) g3'⟩, by decide +kernel, by decide +kernel, by decide +kernel⟩
      obtain ⟨yd, yr, yo⟩ := hyd
      refine ⟨FP, _, _, rfl, rfl, hF11, by rw [List.length_map]; omega, ?_⟩
      have ev11 := ev6.kp d6 ((upk kO).trans k11)
      have kU : Kp (FP :: D.ex) H11 (upd H11 FP (.lst (fs.map V.str ++ [y]))) := Kp.put (by simp)
      refine ⟨rfl, fs.map PyData.str ++ [yd], fs.map V.str ++ [y], upd_same, ?_, fun d hd => ?_, by rw [List.length_append]; show _ + 1 ≤ 10; omega, ⟨?_, ?_, tab_upd ev11.tab hF11, ev11.cD⟩, (d11.upd nFD).less (by omega)⟩
      · exact RpAll.app (RpAll.strs fs) (RpAll.one (Rp.less (fun b hb => List.mem_cons_of_mem _ hb) _ _ (Rp.keep kU _ _ yr)))
      · rcases List.mem_append.mp hd with z | z
        · exact fvok d z
        · rw [List.mem_singleton.mp z]; exact yo
      · exact Rp.less (fun b hb => List.mem_cons_of_mem _ hb) _ _ (Rp.keep ((kFall.mono fun b hb => List.mem_cons_of_mem _ hb).trans kU) _ _ rpF)
      · rw [upd_ne cF]; exact ev11.sp
    rintro σ' H6 ⟨rfl, ds, us, hF6, hds, dvok, dsl, ev6, d6⟩
    clear rpF fvok fll cF hF hfn ev5 d5
    -- the retractions
    refine ⟨_, rfl, _, rfl, by show 1 ≤ sizeLine; omega, fun l1 nl1 => ?_⟩
    have p1 : Kp [] H6 (upd H6 l1 (.lst [.ref FP])) := Kp.laid nl1
    have g1 : (upd H6 l1 (.lst [.ref FP])) l1 = some (.lst [.ref FP]) := upd_same
    have D1 := d6.keep p1
    generalize upd H6 l1 (.lst [.ref FP]) = H7 at p1 g1 D1 ⊢
    refine ⟨l1, 5, _, rfl, rfl, g1, by decide, by decide, by show 1 * 5 ≤ sizeLine; omega, fun P1 n1 => ?_⟩
    have p2 : Kp [] H7 (upd H7 P1 (.lst (List.replicate (5 : Int).toNat [V.ref FP]).flatten)) := Kp.laid n1
    have g2 : (upd H7 P1 (.lst (List.replicate (5 : Int).toNat [V.ref FP]).flatten)) P1 = some (.lst (List.replicate (5 : Int).toNat [V.ref FP]).flatten) := upd_same
    have D2 := D1.keep p2
    generalize upd H7 P1 (.lst (List.replicate (5 : Int).toNat [V.ref FP]).flatten) = H8 at p2 g2 D2 ⊢
    have hF8 := p2 _ _ (by simp) (p1 _ _ (by simp) hF6)
    refine ⟨_, rfl, FP, us, rfl, .inl ⟨SqL.of hF8, fun TP nTP => fun w1 nw1 => ⟨by show 5 ≤ sizeLine; omega, fun L1 nL1 => ?_⟩⟩⟩
    have p3 : Kp [] H8 (upd H8 TP (.tup us)) := Kp.laid nTP
    have g3 : (upd H8 TP (.tup us)) TP = some (.tup us) := upd_same
    have TPD := D2.fresh nTP
    have D3 := D2.keep p3
    generalize upd H8 TP (.tup us) = H9 at p3 g3 D3 nw1 nL1 ⊢
    have p4 : Kp [] H9 (upd H9 w1 (.dK [])) := Kp.laid nw1
    have g4 : (upd H9 w1 (.dK [])) w1 = some (.dK []) := upd_same
    have w1D := D3.fresh nw1
    have D4 := D3.keep p4
    generalize upd H9 w1 (.dK []) = H10 at p4 g4 D4 nL1 ⊢
    have p5 : Kp [] H10 (upd H10 L1 (.lst [.ref TP, V.non, V.str "a", .ref w1, V.int 3])) := Kp.laid nL1
    have g5 : (upd H10 L1 (.lst [.ref TP, V.non, V.str "a", .ref w1, V.int 3])) L1 = some (.lst [.ref TP, V.non, V.str "a", .ref w1, V.int 3]) := upd_same
    have D5 := D4.keep p5
    generalize upd H10 L1 (.lst [.ref TP, V.non, V.str "a", .ref w1, V.int 3]) = H11 at p5 g5 D5 ⊢
    refine ⟨P1, L1, _, _, rfl, rfl, p5 _ _ (by simp) (p4 _ _ (by simp) (p3 _ _ (by simp) g2)), g5, by show 5 + 5 ≤ sizeLine; omega, fun P2 n2 => ?_⟩
    have p6 : Kp [] H11 (upd H11 P2 (.lst ((List.replicate (5 : Int).toNat [V.ref FP]).flatten ++ [.ref TP, V.non, V.str "a", .ref w1, V.int 3]))) := Kp.laid n2
    have g6 : (upd H11 P2 (.lst ((List.replicate (5 : Int).toNat [V.ref FP]).flatten ++ [.ref TP, V.non, V.str "a", .ref w1, V.int 3]))) P2 = some (.lst ((List.replicate (5 : Int).toNat [V.ref FP]).flatten ++ [.ref TP, V.non, V.str "a", .ref w1, V.int 3])) := upd_same
    have P2D := D5.fresh n2
    have D6 := D5.keep p6
    generalize upd H11 P2 (.lst ((List.replicate (5 : Int).toNat [V.ref FP]).flatten ++ [.ref TP, V.non, V.str "a", .ref w1, V.int 3])) = H12 at p6 g6 D6 ⊢
    have kP : Kp [] H6 H12 := p1.trans (p2.trans (p3.trans (p4.trans (p5.trans p6))))
    have g3' := p6 _ _ (by simp) (p5 _ _ (by simp) (p4 _ _ (by simp) g3))
    have g4' := p6 _ _ (by simp) (p5 _ _ (by simp) g4)
    have hF12 := kP _ _ (by simp) hF6
    have ev12 := ev6.kp d6 (upk kP)
    have hds12 := RpAll.keep (upk kP) _ _ hds
    clear p1 p2 p3 p4 p5 p6 g1 g2 g3 g4 g5 D1 D2 D3 D4 D5 hF8 nl1 n1 nTP nw1 nL1 n2 kP
    refine ⟨D, 899999480 - i * 10000, P2, _, rfl, SqL.of g6, by simp, by show 5 + 5 < 1073741824; decide, Dr.sub P2D, D6.less (by omega), fun j gv H13 hgv k13 d13 => ?_⟩
    have hgB : BOkV D.ex H13 gv := by
      obtain ⟨bl, bt⟩ := bok_list dvok (by omega)
      rcases List.mem_append.mp (List.mem_of_getElem? hgv) with z | z
      · have : gv = .ref FP := by
          obtain ⟨l, hl, hy'⟩ := List.mem_flatten.mp z
          rw [(List.mem_replicate.mp hl).2] at hy'
          exact List.mem_singleton.mp hy'
        rw [this]
        exact ⟨.list ds, ⟨FP, us, rfl, Dr.sub nFD, k13 _ _ (Dr.sub nFD) hF12, RpAll.keep k13 _ _ hds12⟩, bl⟩
      · simp only [List.mem_cons, List.not_mem_nil, or_false] at z
        rcases z with z | z | z | z | z
        · rw [z]; exact ⟨.tuple ds, ⟨TP, us, rfl, Dr.sub TPD, k13 _ _ (Dr.sub TPD) g3', RpAll.keep k13 _ _ hds12⟩, bt⟩
        · rw [z]; exact bok_non
        · rw [z]; exact bok_str (by decide) (by decide +kernel)
        · rw [z]; exact bok_nil (Dr.sub w1D) (k13 _ _ (Dr.sub w1D) g4')
        · rw [z]; exact bok_int
    have ev13 := ev12.kp D6 k13
    clear hgv g6 g3' g4' hF12 hds12 ev12 D6 k13 hF6 hds ev6 d6 dvok dsl
    -- the target
    refine ⟨_, rfl, _, rfl, _, rfl, D, 899999400 - i * 10000, p, c, es, ys, rfl, ev13.rp, hok, h60, ev13.sp, yvok, hyl60, hcD, d13.less (by omega), fun tv H14 htB k14 d14 => ?_⟩
    have ev14 := ev13.kp d13 k14
    have hgB14 := hgB.keep k14
    obtain ⟨dg, rg, bg⟩ := hgB14
    obtain ⟨dt, rt, bt⟩ := htB
    clear ev13 hgB k14 d13
    refine parts_ok (dt := dt) rfl rt bt fun tp px py dr dc H15 k15 htp rr rc br bc => ?_
    have ev15 := ev14.kp d14 (upk k15)
    have d15 := d14.keep k15
    have rg15 := Rp.keep (upk k15) _ _ rg
    have rt15 := Rp.keep (upk k15) _ _ rt
    clear ev14 d14 rg rt k15
    -- the log that is given
    obtain ⟨pb, xb, epb, npb, hpb, hxb⟩ := id ev15.rp
    obtain rfl := V.ref.inj epb
    have hxbl : xb.length ≤ 60 := by rw [← hxb.len, List.length_map]; exact h60
    refine ⟨_, rfl, _, rfl, by show 1 ≤ sizeLine; omega, fun l2 nl2 => ?_⟩
    have p1 : Kp [] H15 (upd H15 l2 (.lst [.ref p])) := Kp.laid nl2
    have g1 : (upd H15 l2 (.lst [.ref p])) l2 = some (.lst [.ref p]) := upd_same
    have D1 := d15.keep p1
    generalize upd H15 l2 (.lst [.ref p]) = H16 at p1 g1 D1 ⊢
    refine ⟨l2, 6, _, rfl, rfl, g1, by decide, by decide, by show 1 * 6 ≤ sizeLine; omega, fun P1 n1 => ?_⟩
    have p2 : Kp [] H16 (upd H16 P1 (.lst (List.replicate (6 : Int).toNat [V.ref p]).flatten)) := Kp.laid n1
    have g2 : (upd H16 P1 (.lst (List.replicate (6 : Int).toNat [V.ref p]).flatten)) P1 = some (.lst (List.replicate (6 : Int).toNat [V.ref p]).flatten) := upd_same
    have D2 := D1.keep p2
    generalize upd H16 P1 (.lst (List.replicate (6 : Int).toNat [V.ref p]).flatten) = H17 at p2 g2 D2 ⊢
    have hp17 := p2 _ _ (by simp) (p1 _ _ (by simp) hpb)
    refine ⟨_, rfl, p, xb, rfl, .inr (.inl (.inl hp17)), fun LB nLB => ?_⟩
    have p3 : Kp [] H17 (upd H17 LB (.lst xb)) := Kp.laid nLB
    have g3 : (upd H17 LB (.lst xb)) LB = some (.lst xb) := upd_same
    have LBD := D2.fresh nLB
    have D3 := D2.keep p3
    generalize upd H17 LB (.lst xb) = H18 at p3 g3 D3 ⊢
    refine ⟨_, rfl, by show 1 ≤ sizeLine; omega, fun tN ntN => ?_⟩
    have p4 : Kp [] H18 (upd H18 tN (.tup [V.non])) := Kp.laid ntN
    have g4 : (upd H18 tN (.tup [V.non])) tN = some (.tup [V.non]) := upd_same
    have D4 := D3.keep p4
    generalize upd H18 tN (.tup [V.non]) = H19 at p4 g4 D4 ⊢
    refine catA_any (p4 _ _ (by simp) (p3 _ _ (by simp) hp17)) g4 (by simp) (by show _ + 1 ≤ sizeLine; omega) fun r1 H20 p5 g5 _ => ⟨by show 3 ≤ sizeLine; omega, fun L1 nL1 => ?_⟩
    have D5 := D4.keep p5
    have p6 : Kp [] H20 (upd H20 L1 (.lst [.ref LB, .ref r1, V.non])) := Kp.laid nL1
    have g6 : (upd H20 L1 (.lst [.ref LB, .ref r1, V.non])) L1 = some (.lst [.ref LB, .ref r1, V.non]) := upd_same
    have D6 := D5.keep p6
    generalize upd H20 L1 (.lst [.ref LB, .ref r1, V.non]) = H21 at p6 g6 D6 ⊢
    refine ⟨P1, L1, _, _, rfl, rfl, p6 _ _ (by simp) (p5 _ _ (by simp) (p4 _ _ (by simp) (p3 _ _ (by simp) g2))), g6, by show 6 + 3 ≤ sizeLine; omega, fun P2 n2 => ?_⟩
    have p7 : Kp [] H21 (upd H21 P2 (.lst ((List.replicate (6 : Int).toNat [V.ref p]).flatten ++ [.ref LB, .ref r1, V.non]))) := Kp.laid n2
    have g7 : (upd H21 P2 (.lst ((List.replicate (6 : Int).toNat [V.ref p]).flatten ++ [.ref LB, .ref r1, V.non]))) P2 = some (.lst ((List.replicate (6 : Int).toNat [V.ref p]).flatten ++ [.ref LB, .ref r1, V.non])) := upd_same
    have P2D := D6.fresh n2
    have D7 := D6.keep p7
    generalize upd H21 P2 (.lst ((List.replicate (6 : Int).toNat [V.ref p]).flatten ++ [.ref LB, .ref r1, V.non])) = H22 at p7 g7 D7 ⊢
    have kP : Kp [] H15 H22 := p1.trans (p2.trans (p3.trans (p4.trans (p5.trans (p6.trans p7)))))
    have g3' := p7 _ _ (by simp) (p6 _ _ (by simp) (p5 _ _ (by simp) (p4 _ _ (by simp) g3)))
    have g5' := p7 _ _ (by simp) (p6 _ _ (by simp) g5)
    have r1D : r1 ∉ D.ex := dr_tup D5 g5
    have hxb22 := RpAll.keep (upk kP) _ _ hxb
    refine ⟨D, 899999390 - i * 10000, P2, _, rfl, SqL.of g7, by simp, by show 6 + 3 < 1073741824; decide, Dr.sub P2D, D7.less (by omega), fun j bv H23 hbv k23 d23 => ?_⟩
    have k1523 : Kp D.ex H15 H23 := (upk kP).trans k23
    have hgiv : ∃ bad dd, GivenD es bad dd ∧ Rp D.ex H23 dd bv := by
      rcases List.mem_append.mp (List.mem_of_getElem? hbv) with z | z
      · have : bv = .ref p := by
          obtain ⟨l, hl, hy'⟩ := List.mem_flatten.mp z
          rw [(List.mem_replicate.mp hl).2] at hy'
          exact List.mem_singleton.mp hy'
        rw [this]
        exact ⟨false, logD es, rfl, Rp.keep k1523 _ _ ev15.rp⟩
      · simp only [List.mem_cons, List.not_mem_nil, or_false] at z
        rcases z with z | z | z
        · rw [z]; exact ⟨true, _, given_lst hok.ok, LB, xb, rfl, Dr.sub LBD, k23 _ _ (Dr.sub LBD) g3', RpAll.keep k23 _ _ hxb22⟩
        · rw [z]; exact ⟨true, _, given_snoc hok.ok, r1, xb ++ [V.non], rfl, r1D, k23 _ _ r1D g5', RpAll.app (RpAll.keep k23 _ _ hxb22) (RpAll.one rfl)⟩
        · rw [z]; exact ⟨true, _, given_non, rfl⟩
    obtain ⟨bad, dd, gd, rdd⟩ := hgiv
    have ev23 := ev15.kp d15 k1523
    have rg23 := Rp.keep k1523 _ _ rg15
    have rt23 := Rp.keep k1523 _ _ rt15
    have tpD : tp ∉ D.ex := dr_tup d15 htp
    have htp23 := k1523 _ _ tpD htp
    have rr23 := Rp.keep k1523 _ _ rr
    have rc23 := Rp.keep k1523 _ _ rc
    clear p1 p2 p3 p4 p5 p6 p7 g1 g2 g3 g4 g5 g6 g7 g3' g5' D1 D2 D3 D4 D5 D6 D7 hbv hxb22 kP hp17 hpb hxb ev15 rg15 rt15 htp rr rc d15 k23 k1523 nl2 n1 nLB ntN nL1 n2
    -- what is due
    refine first_ok rfl rfl rfl gd rdd ev23.rp hok h60 rg23 bg.1 d23.live fun fv H24 k24 due1 => ?_
    have d24 := d23.keep k24
    have ev24 := ev23.kp d23 (upk k24)
    refine dueG_ok rfl rfl rfl due1 ev24.rp hok h60 (Rp.keep (upk k24) _ _ rt23) bt.1 d24.live fun uv H25 k25 due2 => ?_
    have d25 := d24.keep k25
    have ev25 := ev24.kp d24 (upk k25)
    have k2325 := k24.trans k25
    have due1' := due1.keep (upk k25)
    have gv25 : GivenV D.ex H25 es bad bv := (gd.v rdd).keep (upk k2325)
    have rg25 := Rp.keep (upk k2325) _ _ rg23
    have rt25 := Rp.keep (upk k2325) _ _ rt23
    have htp25 := k2325 _ _ (by simp) htp23
    have rr25 := Rp.keep (upk k2325) _ _ rr23
    have rc25 := Rp.keep (upk k2325) _ _ rc23
    clear due1 ev23 ev24 d23 d24 k24 k25 rg23 rt23 htp23 rr23 rc23 rdd k2325
    -- the two
    refine res_set (es := es) (dt := dt) (dg := dg) (bad := bad) (fun vs H Q E h => .inl (set_dep h)) (fun vs H Q E h => .inr h) rfl rfl rfl ev25.tab (apart_dr d25) gv25 hok h60 rt25 bt rg25 bg cl0 cl1 cl2 cl4 fun t1' H26 x26 tb26 told1 => ⟨by show 1 ≤ sizeLine; omega, fun fL nfL => ?_⟩
    have d26 := d25.extN x26
    have k27 : Kp [] H26 (upd H26 fL (.lst [.ref t1'])) := Kp.laid nfL
    have h27 : (upd H26 fL (.lst [.ref t1'])) fL = some (.lst [.ref t1']) := upd_same
    have fLD := d26.fresh nfL
    have d27 := d26.keep k27
    have tb27 := tb26.keep k27
    have gv27 : GivenV (fL :: D.ex) (upd H26 fL (.lst [.ref t1'])) es bad bv := by
      have := gv25.ext x26
      cases bad with
      | true => obtain ⟨d, r, n⟩ := this; exact ⟨d, Rp.keep (k27.mono (by simp)) _ _ (Rp.apart nfL _ _ r), n⟩
      | false => exact Rp.keep (k27.mono (by simp)) _ _ (Rp.apart nfL _ _ (show Rp D.ex H26 (logD es) bv from this))
    have rt27 : Rp (fL :: D.ex) (upd H26 fL (.lst [.ref t1'])) dt tv := Rp.keep (k27.mono (by simp)) _ _ (Rp.apart nfL _ _ (Rp.extN x26 _ _ rt25))
    have rg27 : Rp (fL :: D.ex) (upd H26 fL (.lst [.ref t1'])) dg gv := Rp.keep (k27.mono (by simp)) _ _ (Rp.apart nfL _ _ (Rp.extN x26 _ _ rg25))
    generalize upd H26 fL (.lst [.ref t1']) = H27 at k27 h27 d27 tb27 gv27 rt27 rg27 ⊢
    refine ⟨_, rfl, .inl ⟨rfl, _, SqL.of h27⟩, ?_⟩
    refine res_set (es := es) (dt := dt) (dg := dg) (bad := bad) (fun vs H Q E h => .inl h) (fun vs H Q E h => .inr h) rfl rfl rfl tb27 ((apart_dr d27).cons h27) gv27 hok h60 rt27 bt rg27 bg cl0 cl1 cl2 cl4 fun t2' H28 x28 tb28 told2 => ?_
    have h28 := x28 _ _ h27 (fun _ z => by cases z)
    refine ⟨fL, _, _, rfl, rfl, h28, by show 1 < sizeLine; omega, ?_⟩
    have k29 : Kp (fL :: D.ex) H28 (upd H28 fL (.lst ([.ref t1'] ++ [.ref t2']))) := Kp.put (by simp)
    have x2629 : LamX.ExtN H26 (upd H28 fL (.lst ([.ref t1'] ++ [.ref t2']))) := fun b o hb ho => by
      have hne : b ≠ fL := fun z => by rw [z, nfL] at hb; cases hb
      rw [upd_ne hne]
      exact x28 b o (k27 b o (by simp) hb) ho
    have told2' : Told (fL :: D.ex) (upd H28 fL (.lst ([.ref t1'] ++ [.ref t2']))) (toldO bad (depE es dg dt)) t2' := by
      cases e : toldO bad (depE es dg dt) with
      | none =>
        rw [e] at told2
        obtain ⟨y, hy⟩ := told2
        refine ⟨y, ?_⟩
        rw [upd_ne (fun z => by rw [z, h28] at hy; cases hy)]
        exact hy
      | some d =>
        rw [e] at told2
        exact Rp.keep k29 _ _ (show Rp (fL :: D.ex) H28 d (.ref t2') from told2)
    have tb29 := tab_upd (o := .lst ([.ref t1'] ++ [.ref t2'])) tb28 h28
    have h29 : (upd H28 fL (.lst ([.ref t1'] ++ [.ref t2']))) fL = some (.lst [.ref t1', .ref t2']) := upd_same
    have d29 := (d27.extN x28).upd (o := .lst ([.ref t1'] ++ [.ref t2'])) fLD
    generalize upd H28 fL (.lst ([.ref t1'] ++ [.ref t2'])) = H29 at k29 x2629 told2' tb29 h29 d29 ⊢
    have x2529 := x26.trans x2629
    have told1' := told1.keep x2629
    have due2' := due2.ext x2529
    have good1 : ∀ d, toldO bad (depE es dg dt) = some d → Good d := fun d e => told_good (fun r hr => depE_sub bg bt hr) e
    refine ⟨_, rfl, fL, rfl, ⟨_, .inl (.inl h29)⟩, for_list (K := K) (a := fL) (xs := [.ref t1', .ref t2']) (fun j σ H' => ∃ v14 : Option V, σ = [some (.ref a), some (.ref D.d), some (.int (0 + (i : Nat))), some (.ref c), some (.ref p), some (.ref NP), some (.ref CP), some gv, some tv, some (.ref tp), some bv, some fv, some uv, some (.ref fL), v14, none, none, none] ∧ H' = H29) ⟨_, rfl, rfl⟩ ?_ ?_ ?_⟩
    · rintro j σ H' _ ⟨_, _, rfl⟩
      exact .inl (.inl h29)
    · rintro j x σ H' hx ⟨v14', rfl, rfl⟩
      have hx := List.mem_of_getElem? hx
      simp only [List.mem_cons, List.not_mem_nil, or_false] at hx
      rcases hx with z | z
      · rw [z]
        exact told_cmp rfl rfl due2' told1' good1 (iteF ⟨_, rfl, rfl⟩)
      · rw [z]
        exact told_cmp rfl rfl due2' told2' good1 (iteF ⟨_, rfl, rfl⟩)
    rintro σ H' ⟨v14', rfl, rfl⟩
    -- the source
    have ev29 := ev25.ext x2529 tb29
    have rg29 := Rp.extN x2529 _ _ rg25
    have htp29 := x2529 _ _ htp25 (fun _ z => by cases z)
    have rr29 := Rp.extN x2529 _ _ rr25
    have rc29 := Rp.extN x2529 _ _ rc25
    refine dueR_ok (dg := dg) (dr := dr) (dc := dc) rfl rfl rfl rfl (due1'.ext x2529) ev29.rp hok h60 rg29 htp29 rr29 rc29 bc.1 d29.live fun uv2 H30 k30 due3 => ?_
    have d30 := d29.keep k30
    refine res_src (es := es) (dg := dg) (dr := dr) (dc := dc) (bad := bad) (fun vs H Q E h => .inl h) (fun vs H Q E h => .inr h) rfl rfl rfl (tb29.keep k30) (apart_dr d30) ((gv25.ext x2529).keep (upk k30)) hok h60 (k30 _ _ (by simp) htp29) (Rp.keep (upk k30) _ _ rr29) (Rp.keep (upk k30) _ _ rc29) br bc (Rp.keep (upk k30) _ _ rg29) bg cl0 cl1 cl2 cl4 fun t3' H31 x31 tb31 told3 => ?_
    have good3 : ∀ d, toldO bad (srcE es dg dr dc) = some d → Good d := fun d e => told_good (fun r hr => srcE_sub bg br bc hr) e
    refine told_cmp rfl rfl (due3.ext x31) told3 good3 (iteF ?_)
    exact ⟨_, _, _, _, _, _, _, _, _, _, _, _, _, rfl, (d30.extN x31).less (by omega), tb31⟩
  · rintro σ H1 ⟨v2, v3, v4, v5, v6, v7, v8, v9, v10, v11, v12, v13, v14, rfl, d1, t1⟩
    exact q H1
end
end NV
/-! OwnK -/
set_option Elab.async false
set_option linter.all false
set_option maxRecDepth 100000
set_option maxHeartbeats 600000
/-! an error of the package with an __init__ of its own, as the top has written it -/
namespace NV
open PySem PySem.Spec PyProof.Rows L2
def oexcB (K : PySem.W.Frag) (C : Addr) : Bool := match K.lookup C with
  | some ⟨.type "type", _, .cls cd, sl⟩ => (match cd.mro, sl.toList with
    | .ref C' :: bm, [_, _, _, _, some (.builtin n), _] => C' == C && n == "ValueError.__new__" && !cd.hasDel && cd.hasDict && PySem.HandSPX.refsVE bm
    | _, _ => false)
  | _ => false
theorem oexc_cls {K : PySem.W.Frag} {C : Addr} (q : oexcB K C = true) : ∃ nm q N bs bm sn sub ab col dd k0 k1 k2 k3 k5, K.lookup C = some (excClassObj nm q C N bs bm true sn sub ab col dd k0 k1 k2 k3 k5 "ValueError.__new__") ∧ PySem.HandSPX.refsVE bm = true := by
  unfold oexcB at q
  split at q
  · rename_i dd cd sl ho
    split at q
    · rename_i C' bm k0 k1 k2 k3 n k5 hm hs
      simp only [Bool.and_eq_true, beq_iff_eq, Bool.not_eq_true'] at q
      obtain ⟨⟨⟨⟨rfl, rfl⟩, hdel⟩, hd0⟩, hr⟩ := q
      obtain ⟨nm, bs, mro, ns, qn, hd, sn, sub, ab, col, del⟩ := cd
      dsimp only at hm hdel hd0
      subst hm hdel hd0
      have hsl : sl = #[k0, k1, k2, k3, some (.builtin "ValueError.__new__"), k5] := by
        obtain ⟨l⟩ := sl
        simp only at hs
        rw [hs]
      subst hsl
      exact ⟨nm, qn, ns, bs, bm, sn, sub, ab, col, dd, k0, k1, k2, k3, k5, ho, hr⟩
    · cases q
  · cases q
/-- the questions that have a yes or no -/
def ownB (K : PySem.W.Frag) (C fI : Addr) (f : Str) : Bool := oexcB K C && (decide (PySem.W.findIn K (.ref C) "__setattr__" = some (some (.builtin "object.__setattr__"))) && (decide (PySem.W.subIn K (.ref C) (.type "BaseException") = some true) && (decide (PySem.W.typeIn K (.ref C) = some (.type "type")) && (PySem.W.keepIn K (.ref C) &&
  (decide (PySem.W.findIn K (.ref C) "__init__" = some (some (.ref fI))) && (decide (PySem.W.typeIn K (.ref fI) = some (.type "function")) && (decide (PySem.W.findIn K (.ref C) f = some none) && PySem.W.keepIn K (.ref fI))))))))
/-- the __init__ -/
def AtInit (K : PySem.W.Frag) (q : Str) (cs : Stmt) (fI : Addr) : Prop := ∃ (oc : Value) (od : Option Addr) (kV doc pm : Value) (an : Option Addr) (cd ct : Value) (sl : Array (Option Value)),
  K.lookup fI = some ⟨oc, od, .func (PySem.W.fnOf "__init__" q (defArgs (iniS cs)) (defBody (iniS cs)) (defScope (iniS cs)) .none kV doc pm an cd ct), sl⟩ ∧ PySem.W.codeIn K cd q = true
section
variable {K : PySem.W.Frag} {mg : Str → Option Value} {nm f q : Str} {cs : Stmt} {C fI : Addr}
theorem atInit_mk {oc : Value} {od : Option Addr} {kV doc pm : Value} {an : Option Addr} {cd ct : Value} {sl : Array (Option Value)} (l : K.lookup fI = some ⟨oc, od, .func (PySem.W.fnOf "__init__" q (defArgs (iniS cs)) (defBody (iniS cs)) (defScope (iniS cs)) .none kV doc pm an cd ct), sl⟩) (c : PySem.W.codeIn K cd q = true) : AtInit K q cs fI := ⟨oc, od, kV, doc, pm, an, cd, ct, sl, l, c⟩
theorem own_of (hq : nm ++ ".__init__" = q) (g : mg nm = some (.ref C)) (h : ownB K C fI f = true) (a : AtInit K q cs fI)
    (hb : ∀ (kV doc pm : Value) (an : Option Addr) (cdv ct : Value) (us : List Value), us.length = (["self", f] : List Str).length → bindArgs (PySem.W.fnOf "__init__" (nm ++ ".__init__") (defArgs (iniS cs)) (defBody (iniS cs)) (defScope (iniS cs)) .none kV doc pm an cdv ct) ⟨us, []⟩ = pure ((["self", f] : List Str).zip us)) :
    ∃ D : ErrI K mg nm f cs, D.C = C := by
  unfold ownB at h
  simp only [Bool.and_eq_true, decide_eq_true_eq] at h
  obtain ⟨h1, h2, h3, h4, h5, h6, h7, h8, h9⟩ := h
  obtain ⟨oc, od, kV, doc, pm, an, cd, ct, sl, l, c⟩ := a
  subst hq
  have F := fun_mk (st := iniS cs) l c h9
  exact ⟨⟨C, fI, _, F, F.binds hb, g, ⟨oexc_cls h1, h2, h3, h4, h5⟩, h6, h7, h8⟩, rfl⟩
end
end NV
/-! E04 -/
set_option Elab.async false
set_option linter.all false
set_option maxRecDepth 100000
set_option maxHeartbeats 1000000
namespace NV
open PySem PySem.Spec PyProof.Rows L2
theorem all_mk {l : PySem.W.OpenLaw} {w : World} {K : PySem.W.Frag} {h : Heap} {mg : Str → Option Value} {fa : Addr} (X : K.In h) (G : h.Ns mainGlobals mg) (hmg : mg "law" = some (.ref fa))
    (aIsIntegerWithin : At K "is_integer_within" sIsIntegerWithin)
    (aIsId : At K "is_id" sIsId)
    (aIsCell : At K "is_cell" sIsCell)
    (aIsCells : At K "is_cells" sIsCells)
    (aIsPrice : At K "is_price" sIsPrice)
    (aIsEntryWith : At K "is_entry_with" sIsEntryWith)
    (aIsLogWithin : At K "is_log_within" sIsLogWithin)
    (aIsLog : At K "is_log" sIsLog)
    (aCellsWritten : At K "cells_written" sCellsWritten)
    (aIsWriteAt : At K "is_write_at" sIsWriteAt)
    (aIsReadAt : At K "is_read_at" sIsReadAt)
    (aCheckLog : At K "check_log" sCheckLog)
    (aCheckReads : At K "check_reads" sCheckReads)
    (aPositionIn : At K "position_in" sPositionIn)
    (aCheckRetracted : At K "check_retracted" sCheckRetracted)
    (aCheckMayBeRetracted : At K "check_may_be_retracted" sCheckMayBeRetracted)
    (aCheckTarget : At K "check_target" sCheckTarget)
    (aWithoutRetracted : At K "without_retracted" sWithoutRetracted)
    (aSourceBefore : At K "source_before" sSourceBefore)
    (aTriplesOf : At K "triples_of" sTriplesOf)
    (aWritesIn : At K "writes_in" sWritesIn)
    (aLawBegin : At K "_law_begin" sLawBegin)
    (aLawMixed : At K "_law_mixed" sLawMixed)
    (aLawTake : At K "_law_take" sLawTake)
    (aLawPick : At K "_law_pick" sLawPick)
    (aLawSome : At K "_law_some" sLawSome)
    (aLawCells : At K "_law_cells" sLawCells)
    (aLawIds : At K "_law_ids" sLawIds)
    (aLawPrice : At K "_law_price" sLawPrice)
    (aLawLog : At K "_law_log" sLawLog)
    (aLawResult : At K "_law_result" sLawResult)
    (aLawIsCell : At K "_law_is_cell" sLawIsCell)
    (aLawGoneExpected : At K "_law_gone_expected" sLawGoneExpected)
    (aLawGoalExpected : At K "_law_goal_expected" sLawGoalExpected)
    (aLawReadExpected : At K "_law_read_expected" sLawReadExpected)
    (aLawGoal : At K "_law_goal" sLawGoal)
    {cLaw PLaw : Addr} {dcLaw : Option Addr} {vcLaw : Array Value} {scLaw_ : Array (Option Value)} (aLaw : AtC K "law" sLaw cLaw) (lLaw : K.lookup cLaw = some ⟨.type "code", dcLaw, .fields vcLaw, scLaw_⟩) (vLaw : vcLaw[11]? = some (.ref PLaw)) (hLaw : PySem.W.codeHdIn K cLaw PLaw = true) (nLaw : K.lookup PLaw = none) (tLaw : h.get? PLaw = some { cls := .none, data := .fields #[] })
    {cLogError : Addr} (xLogError : PySem.W.nsIn K mainGlobals "LogError" = some (some (.ref cLogError)))
    {cInvalidLog : Addr} (xInvalidLog : PySem.W.nsIn K mainGlobals "InvalidLog" = some (some (.ref cInvalidLog)))
    {cUnknownId : Addr} (xUnknownId : PySem.W.nsIn K mainGlobals "UnknownId" = some (some (.ref cUnknownId)))
    {cUnknownCell : Addr} (xUnknownCell : PySem.W.nsIn K mainGlobals "UnknownCell" = some (some (.ref cUnknownCell)))
    {cSealedWrite : Addr} (xSealedWrite : PySem.W.nsIn K mainGlobals "SealedWrite" = some (some (.ref cSealedWrite)))
    {cDuplicateId : Addr} (xDuplicateId : PySem.W.nsIn K mainGlobals "DuplicateId" = some (some (.ref cDuplicateId)))
    {cInvalidBudget : Addr} (xInvalidBudget : PySem.W.nsIn K mainGlobals "InvalidBudget" = some (some (.ref cInvalidBudget)))
    {cNotCompact : Addr} (xNotCompact : PySem.W.nsIn K mainGlobals "NotCompact" = some (some (.ref cNotCompact)))
    (eAll : errAllB K ⟨cLogError, cUnknownId, cUnknownCell, cSealedWrite, cDuplicateId, cInvalidLog, cInvalidBudget, cNotCompact⟩ = true)
    (eInvalidLog : errB K cInvalidLog = true)
    (eInvalidBudget : errB K cInvalidBudget = true)
    (eNotCompact : errB K cNotCompact = true)
    {fUnknownId : Addr} (mUnknownId : PySem.W.findIn K (.ref cUnknownId) "__init__" = some (some (.ref fUnknownId))) (nUnknownId : AtInit K "UnknownId.__init__" sUnknownid fUnknownId) (oUnknownId : ownB K cUnknownId fUnknownId "entry_id" = true)
    {fUnknownCell : Addr} (mUnknownCell : PySem.W.findIn K (.ref cUnknownCell) "__init__" = some (some (.ref fUnknownCell))) (nUnknownCell : AtInit K "UnknownCell.__init__" sUnknowncell fUnknownCell) (oUnknownCell : ownB K cUnknownCell fUnknownCell "cell" = true)
    {fSealedWrite : Addr} (mSealedWrite : PySem.W.findIn K (.ref cSealedWrite) "__init__" = some (some (.ref fSealedWrite))) (nSealedWrite : AtInit K "SealedWrite.__init__" sSealedwrite fSealedWrite) (oSealedWrite : ownB K cSealedWrite fSealedWrite "entry_id" = true)
    (aDependencies : AtQ K "dependencies" sDependencies "retracted" (IsTup0 K))
    (aDependencySet : AtQ K "dependency_set" sDependencySet "retracted" (IsTup0 K))
    (aSourceOf : AtQ K "source_of" sSourceOf "retracted" (IsTup0 K))
    (iKIND : AtI K "KIND" 0)
    (iID : AtI K "ID" 1)
    (iREADS : AtI K "READS" 2)
    (iWRITES : AtI K "WRITES" 3)
    (iPRICE : AtI K "PRICE" 4)
    (iLONGEST_CELL : AtI K "LONGEST_CELL" 4)
    (iLONGEST_ID : AtI K "LONGEST_ID" 6)
    (iMOST_CELLS : AtI K "MOST_CELLS" 3)
    (iHIGHEST_PRICE : AtI K "HIGHEST_PRICE" 99)
    (iMOST_ENTRIES : AtI K "MOST_ENTRIES" 60)
    (iEND : AtS K "END" "")
    (z_ValueError : PySem.W.nsIn K mainGlobals "ValueError" = some none)
    (z_abs : PySem.W.nsIn K mainGlobals "abs" = some none)
    (z_bool : PySem.W.nsIn K mainGlobals "bool" = some none)
    (z_dict : PySem.W.nsIn K mainGlobals "dict" = some none)
    (z_enumerate : PySem.W.nsIn K mainGlobals "enumerate" = some none)
    (z_int : PySem.W.nsIn K mainGlobals "int" = some none)
    (z_isinstance : PySem.W.nsIn K mainGlobals "isinstance" = some none)
    (z_len : PySem.W.nsIn K mainGlobals "len" = some none)
    (z_list : PySem.W.nsIn K mainGlobals "list" = some none)
    (z_min : PySem.W.nsIn K mainGlobals "min" = some none)
    (z_range : PySem.W.nsIn K mainGlobals "range" = some none)
    (z_repr : PySem.W.nsIn K mainGlobals "repr" = some none)
    (z_reversed : PySem.W.nsIn K mainGlobals "reversed" = some none)
    (z_sorted : PySem.W.nsIn K mainGlobals "sorted" = some none)
    (z_str : PySem.W.nsIn K mainGlobals "str" = some none)
    (z_tuple : PySem.W.nsIn K mainGlobals "tuple" = some none)
    (z_zip : PySem.W.nsIn K mainGlobals "zip" = some none)
    : LawG l w K CX0 15 63 "script" mg fa h := by
  have b_ValueError := PySem.W.mg_none_of X G z_ValueError
  have b_abs := PySem.W.mg_none_of X G z_abs
  have b_bool := PySem.W.mg_none_of X G z_bool
  have b_dict := PySem.W.mg_none_of X G z_dict
  have b_enumerate := PySem.W.mg_none_of X G z_enumerate
  have b_int := PySem.W.mg_none_of X G z_int
  have b_isinstance := PySem.W.mg_none_of X G z_isinstance
  have b_len := PySem.W.mg_none_of X G z_len
  have b_list := PySem.W.mg_none_of X G z_list
  have b_min := PySem.W.mg_none_of X G z_min
  have b_range := PySem.W.mg_none_of X G z_range
  have b_repr := PySem.W.mg_none_of X G z_repr
  have b_reversed := PySem.W.mg_none_of X G z_reversed
  have b_sorted := PySem.W.mg_none_of X G z_sorted
  have b_str := PySem.W.mg_none_of X G z_str
  have b_tuple := PySem.W.mg_none_of X G z_tuple
  have b_zip := PySem.W.mg_none_of X G z_zip
  have gKIND := at_int X G iKIND
  have gID := at_int X G iID
  have gREADS := at_int X G iREADS
  have gWRITES := at_int X G iWRITES
  have gPRICE := at_int X G iPRICE
  have gLONGEST_CELL := at_int X G iLONGEST_CELL
  have gLONGEST_ID := at_int X G iLONGEST_ID
  have gMOST_CELLS := at_int X G iMOST_CELLS
  have gHIGHEST_PRICE := at_int X G iHIGHEST_PRICE
  have gMOST_ENTRIES := at_int X G iMOST_ENTRIES
  have gEND := at_str X G iEND
  have gLogError := PySem.W.mg_of X G xLogError
  have gInvalidLog := PySem.W.mg_of X G xInvalidLog
  have gUnknownId := PySem.W.mg_of X G xUnknownId
  have gUnknownCell := PySem.W.mg_of X G xUnknownCell
  have gSealedWrite := PySem.W.mg_of X G xSealedWrite
  have gDuplicateId := PySem.W.mg_of X G xDuplicateId
  have gInvalidBudget := PySem.W.mg_of X G xInvalidBudget
  have gNotCompact := PySem.W.mg_of X G xNotCompact
  obtain ⟨XUnknownId, rfl⟩ := own_of (nm := "UnknownId") (q := "UnknownId.__init__") (cs := sUnknownid) (by decide +kernel) gUnknownId oUnknownId nUnknownId fun _ _ _ _ _ _ us hl => match us, hl with | [_, _], _ => rfl
  obtain ⟨XUnknownCell, rfl⟩ := own_of (nm := "UnknownCell") (q := "UnknownCell.__init__") (cs := sUnknowncell) (by decide +kernel) gUnknownCell oUnknownCell nUnknownCell fun _ _ _ _ _ _ us hl => match us, hl with | [_, _], _ => rfl
  obtain ⟨XSealedWrite, rfl⟩ := own_of (nm := "SealedWrite") (q := "SealedWrite.__init__") (cs := sSealedwrite) (by decide +kernel) gSealedWrite oSealedWrite nSealedWrite fun _ _ _ _ _ _ us hl => match us, hl with | [_, _], _ => rfl
  obtain ⟨DLaw, CLaw⟩ := fnc_at X G aLaw (ps := ["script"]) fun _ _ _ _ _ _ us hl => match us, hl with | [_], _ => rfl
  obtain ⟨DIsIntegerWithin⟩ := fn_at X G aIsIntegerWithin (ps := ["value", "lowest", "highest"]) fun _ _ _ _ _ _ us hl => match us, hl with | [_, _, _], _ => rfl
  obtain ⟨DIsId⟩ := fn_at X G aIsId (ps := ["value"]) fun _ _ _ _ _ _ us hl => match us, hl with | [_], _ => rfl
  obtain ⟨DIsCell⟩ := fn_at X G aIsCell (ps := ["value"]) fun _ _ _ _ _ _ us hl => match us, hl with | [_], _ => rfl
  obtain ⟨DIsCells⟩ := fn_at X G aIsCells (ps := ["value", "fewest", "known"]) fun _ _ _ _ _ _ us hl => match us, hl with | [_, _, _], _ => rfl
  obtain ⟨DIsPrice⟩ := fn_at X G aIsPrice (ps := ["value"]) fun _ _ _ _ _ _ us hl => match us, hl with | [_], _ => rfl
  obtain ⟨DIsEntryWith⟩ := fn_at X G aIsEntryWith (ps := ["value", "known"]) fun _ _ _ _ _ _ us hl => match us, hl with | [_, _], _ => rfl
  obtain ⟨DIsLogWithin⟩ := fn_at X G aIsLogWithin (ps := ["value", "most"]) fun _ _ _ _ _ _ us hl => match us, hl with | [_, _], _ => rfl
  obtain ⟨DIsLog⟩ := fn_at X G aIsLog (ps := ["value"]) fun _ _ _ _ _ _ us hl => match us, hl with | [_], _ => rfl
  obtain ⟨DCellsWritten⟩ := fn_at X G aCellsWritten (ps := ["entry"]) fun _ _ _ _ _ _ us hl => match us, hl with | [_], _ => rfl
  obtain ⟨DIsWriteAt⟩ := fn_at X G aIsWriteAt (ps := ["log", "position"]) fun _ _ _ _ _ _ us hl => match us, hl with | [_, _], _ => rfl
  obtain ⟨DIsReadAt⟩ := fn_at X G aIsReadAt (ps := ["log", "position", "cell"]) fun _ _ _ _ _ _ us hl => match us, hl with | [_, _, _], _ => rfl
  obtain ⟨DCheckLog⟩ := fn_at X G aCheckLog (ps := ["log"]) fun _ _ _ _ _ _ us hl => match us, hl with | [_], _ => rfl
  obtain ⟨DCheckReads⟩ := fn_at X G aCheckReads (ps := ["log", "position", "cell"]) fun _ _ _ _ _ _ us hl => match us, hl with | [_, _, _], _ => rfl
  obtain ⟨DPositionIn⟩ := fn_at X G aPositionIn (ps := ["log", "entry_id"]) fun _ _ _ _ _ _ us hl => match us, hl with | [_, _], _ => rfl
  obtain ⟨DCheckRetracted⟩ := fn_at X G aCheckRetracted (ps := ["log", "retracted"]) fun _ _ _ _ _ _ us hl => match us, hl with | [_, _], _ => rfl
  obtain ⟨DCheckMayBeRetracted⟩ := fn_at X G aCheckMayBeRetracted (ps := ["entry"]) fun _ _ _ _ _ _ us hl => match us, hl with | [_], _ => rfl
  obtain ⟨DCheckTarget⟩ := fn_at X G aCheckTarget (ps := ["log", "target"]) fun _ _ _ _ _ _ us hl => match us, hl with | [_, _], _ => rfl
  obtain ⟨DWithoutRetracted⟩ := fn_at X G aWithoutRetracted (ps := ["log", "retracted"]) fun _ _ _ _ _ _ us hl => match us, hl with | [_, _], _ => rfl
  obtain ⟨DSourceBefore⟩ := fn_at X G aSourceBefore (ps := ["live", "position", "cell"]) fun _ _ _ _ _ _ us hl => match us, hl with | [_, _, _], _ => rfl
  obtain ⟨DTriplesOf⟩ := fn_at X G aTriplesOf (ps := ["live", "target"]) fun _ _ _ _ _ _ us hl => match us, hl with | [_, _], _ => rfl
  obtain ⟨DWritesIn⟩ := fn_at X G aWritesIn (ps := ["log", "triples"]) fun _ _ _ _ _ _ us hl => match us, hl with | [_, _], _ => rfl
  obtain ⟨DLawBegin⟩ := fn_at X G aLawBegin (ps := ["script"]) fun _ _ _ _ _ _ us hl => match us, hl with | [_], _ => rfl
  obtain ⟨DLawMixed⟩ := fn_at X G aLawMixed (ps := ["draw"]) fun _ _ _ _ _ _ us hl => match us, hl with | [_], _ => rfl
  obtain ⟨DLawTake⟩ := fn_at X G aLawTake (ps := ["draw", "size"]) fun _ _ _ _ _ _ us hl => match us, hl with | [_, _], _ => rfl
  obtain ⟨DLawPick⟩ := fn_at X G aLawPick (ps := ["draw", "some"]) fun _ _ _ _ _ _ us hl => match us, hl with | [_, _], _ => rfl
  obtain ⟨DLawSome⟩ := fn_at X G aLawSome (ps := ["draw", "things", "least", "most"]) fun _ _ _ _ _ _ us hl => match us, hl with | [_, _, _, _], _ => rfl
  obtain ⟨DLawCells⟩ := fn_at X G aLawCells (ps := ["draw", "many"]) fun _ _ _ _ _ _ us hl => match us, hl with | [_, _], _ => rfl
  obtain ⟨DLawIds⟩ := fn_at X G aLawIds (ps := ["draw", "many"]) fun _ _ _ _ _ _ us hl => match us, hl with | [_, _], _ => rfl
  obtain ⟨DLawPrice⟩ := fn_at X G aLawPrice (ps := ["draw"]) fun _ _ _ _ _ _ us hl => match us, hl with | [_], _ => rfl
  obtain ⟨DLawLog⟩ := fn_at X G aLawLog (ps := ["draw", "many", "cells"]) fun _ _ _ _ _ _ us hl => match us, hl with | [_, _, _], _ => rfl
  obtain ⟨DLawResult⟩ := fn_at X G aLawResult (ps := ["work"]) fun _ _ _ _ _ _ us hl => match us, hl with | [_], _ => rfl
  obtain ⟨DLawIsCell⟩ := fn_at X G aLawIsCell (ps := ["thing"]) fun _ _ _ _ _ _ us hl => match us, hl with | [_], _ => rfl
  obtain ⟨DLawGoneExpected⟩ := fn_at X G aLawGoneExpected (ps := ["book", "gone"]) fun _ _ _ _ _ _ us hl => match us, hl with | [_, _], _ => rfl
  obtain ⟨DLawGoalExpected⟩ := fn_at X G aLawGoalExpected (ps := ["book", "goal"]) fun _ _ _ _ _ _ us hl => match us, hl with | [_, _], _ => rfl
  obtain ⟨DLawReadExpected⟩ := fn_at X G aLawReadExpected (ps := ["book", "gone", "reader", "spot"]) fun _ _ _ _ _ _ us hl => match us, hl with | [_, _, _, _], _ => rfl
  obtain ⟨DLawGoal⟩ := fn_at X G aLawGoal (ps := ["draw", "book", "spots"]) fun _ _ _ _ _ _ us hl => match us, hl with | [_, _, _], _ => rfl
  obtain ⟨DDependencies, uDependencies, pDependencies, LDependencies⟩ := fnq_at (ps := ["log", "target", "retracted"]) 2 X G aDependencies rfl fun _ _ _ _ _ _ us ks h1 h2 => match us, ks, h1, h2 with | [_, _], [_], _, _ => ⟨_, _, _, _, _, _, rfl, rfl, rfl⟩
  obtain ⟨DDependencySet, uDependencySet, pDependencySet, LDependencySet⟩ := fnq_at (ps := ["log", "target", "retracted"]) 2 X G aDependencySet rfl fun _ _ _ _ _ _ us ks h1 h2 => match us, ks, h1, h2 with | [_, _], [_], _, _ => ⟨_, _, _, _, _, _, rfl, rfl, rfl⟩
  obtain ⟨DSourceOf, uSourceOf, pSourceOf, LSourceOf⟩ := fnq_at (ps := ["log", "reader", "cell", "retracted"]) 3 X G aSourceOf rfl fun _ _ _ _ _ _ us ks h1 h2 => match us, ks, h1, h2 with | [_, _, _], [_], _, _ => ⟨_, _, _, _, _, _, rfl, rfl, rfl⟩
  obtain rfl : fa = DLaw.f := by
    have e := hmg.symm.trans DLaw.m
    cases e
    rfl
  refine ⟨DLaw.fd, [(cLaw, PLaw)], spLaw K PLaw, ⟨(fun p hp => by rw [List.mem_singleton.mp hp]; exact tLaw), (fun p hp => by rw [List.mem_singleton.mp hp]; exact nLaw), fun p hp => by rw [List.mem_singleton.mp hp]; exact PySem.W.codeHd_of_K X hLaw⟩, law_binds DLaw.F (fun _ _ _ _ _ _ u => rfl), fun H a ns hl _ hT hS => ⟨a, ns, rfl, hS, hl, LamX.TabS.nil (hT (cLaw, PLaw) (by simp)), fun H' => rfl⟩, fun base KB NB TBs => ?_⟩
  have TB : LamX.TabB base mg cLaw PLaw := TBs (cLaw, PLaw) (by simp)
  have hA := eAll
  unfold errAllB at hA
  simp only [Bool.and_eq_true, List.all_eq_true, List.mem_range] at hA
  obtain ⟨hcl, hf0, hf1, hf2, hf3⟩ := hA
  have Te : ErrTop mg ⟨cLogError, XUnknownId.C, XUnknownCell.C, XSealedWrite.C, cDuplicateId, cInvalidLog, cInvalidBudget, cNotCompact⟩ := ⟨gLogError, gUnknownId, gUnknownCell, gSealedWrite, gDuplicateId, gInvalidLog, gInvalidBudget, gNotCompact⟩
  obtain ⟨XL, rfl⟩ := err_of gInvalidLog eInvalidLog
  have GIsIntegerWithin := ok_pwithin (P := l.prog) (w := w) (base := base) DIsIntegerWithin b_isinstance b_int b_bool
  have GIsPrice := ok_pprice (P := l.prog) (w := w) (base := base) DIsPrice DIsIntegerWithin gHIGHEST_PRICE GIsIntegerWithin
  have GIsId := ok_pid (P := l.prog) (w := w) (base := base) DIsId b_isinstance b_len b_str gLONGEST_ID
  have GIsCell := ok_pcell (P := l.prog) (w := w) (base := base) DIsCell DIsId b_len gLONGEST_CELL GIsId
  have GIsCells := ok_pcells (P := l.prog) (w := w) (base := base) DIsCells DIsCell b_isinstance b_len b_tuple b_str gMOST_CELLS GIsCell
  have GIsEntryWith := ok_pentryk (P := l.prog) (w := w) (base := base) DIsEntryWith DIsId DIsPrice DIsCells b_isinstance b_len b_tuple GIsId GIsPrice GIsCells
  have GIsLogWithin := ok_plogw (P := l.prog) (w := w) (base := base) DIsLogWithin DIsEntryWith b_isinstance b_len b_tuple gID GIsEntryWith
  have GIsLog := ok_plog (P := l.prog) (w := w) (base := base) DIsLog DIsLogWithin gMOST_ENTRIES GIsLogWithin
  have GCheckLog := ok_checklog (P := l.prog) (w := w) (base := base) DCheckLog DIsLog GIsLog
  have XCheckLog := ok_checklogX (P := l.prog) (w := w) (base := base) DCheckLog DIsLog XL gMOST_ENTRIES GIsLog
  have GI := ok_initUnknownid (P := l.prog) (w := w) (base := base) XUnknownId
  have GC := ok_initUnknowncell (P := l.prog) (w := w) (base := base) XUnknownCell
  have GS := ok_initSealedwrite (P := l.prog) (w := w) (base := base) XSealedWrite
  have GCellsWritten := ok_cellsw (P := l.prog) (w := w) (base := base) DCellsWritten gKIND gWRITES
  have GIsWriteAt := ok_writeat (P := l.prog) (w := w) (base := base) DIsWriteAt b_len gKIND
  have GIsReadAt := ok_readatX (P := l.prog) (w := w) (base := base) DIsReadAt DIsCell b_len gREADS GIsCell
  have XCheckReads := ok_readsX (P := l.prog) (w := w) (base := base) (Cs := ErrAt.no ⟨cLogError, XUnknownId.C, XUnknownCell.C, XSealedWrite.C, cDuplicateId, XL.C, cInvalidBudget, cNotCompact⟩) DCheckReads DIsReadAt XUnknownCell GC rfl GIsReadAt
  have XPositionIn := ok_posX (P := l.prog) (w := w) (base := base) DPositionIn XUnknownId GI b_len b_enumerate gEND gID
  have GPositionIn := ok_pos (P := l.prog) (w := w) (base := base) DPositionIn b_len b_enumerate gEND gID
  have XMayBe := ok_maybeX (P := l.prog) (w := w) (base := base) (Cs := ErrAt.no ⟨cLogError, XUnknownId.C, XUnknownCell.C, XSealedWrite.C, cDuplicateId, XL.C, cInvalidBudget, cNotCompact⟩) DCheckMayBeRetracted XUnknownId GI XSealedWrite GS rfl rfl gKIND gID gPRICE
  have XCheckRetracted := ok_retrX (P := l.prog) (w := w) (base := base) DCheckRetracted DIsId DCheckMayBeRetracted XUnknownId GI rfl b_isinstance b_list b_tuple gID GIsId XMayBe
  have XCheckTarget := ok_targX (P := l.prog) (w := w) (base := base) DCheckTarget DPositionIn DIsWriteAt DCheckReads XUnknownId GI rfl b_isinstance b_tuple b_len XPositionIn GIsWriteAt XCheckReads
  have GWithoutRetracted := ok_without (P := l.prog) (w := w) (base := base) DWithoutRetracted b_tuple gID
  have GSourceBefore := ok_source (P := l.prog) (w := w) (base := base) DSourceBefore DCellsWritten b_reversed gID GCellsWritten
  have GTriplesOf := ok_triples (P := l.prog) (w := w) (base := base) DTriplesOf DPositionIn DCellsWritten b_reversed gID gREADS GPositionIn GCellsWritten
  have GWritesIn := ok_writesin (P := l.prog) (w := w) (base := base) DWritesIn gID
  have BDependencies2 : KBn K DDependencies.fd ["log", "target", "retracted"] 2 ["retracted"] (· ++ ·) (· ++ ·) := kbn_mk DDependencies.F (fun _ _ _ _ _ _ us ws h1 h2 => match us, ws, h1, h2 with | [_, _], [_], _, _ => rfl) fun r1 r2 => r1.append r2
  have BDependencySet2 : KBn K DDependencySet.fd ["log", "target", "retracted"] 2 ["retracted"] (· ++ ·) (· ++ ·) := kbn_mk DDependencySet.F (fun _ _ _ _ _ _ us ws h1 h2 => match us, ws, h1, h2 with | [_, _], [_], _, _ => rfl) fun r1 r2 => r1.append r2
  have BSourceOf3 : KBn K DSourceOf.fd ["log", "reader", "cell", "retracted"] 3 ["retracted"] (· ++ ·) (· ++ ·) := kbn_mk DSourceOf.F (fun _ _ _ _ _ _ us ws h1 h2 => match us, ws, h1, h2 with | [_, _, _], [_], _, _ => rfl) fun r1 r2 => r1.append r2
  have XDep := ok_depX (P := l.prog) (w := w) (base := base) DDependencies DCheckLog DCheckRetracted DCheckTarget DTriplesOf DWithoutRetracted GCheckLog XCheckRetracted XCheckTarget GTriplesOf GWithoutRetracted
  have XDepB := ok_depBad (P := l.prog) (w := w) (base := base) DDependencies DCheckLog XCheckLog
  have XSet := ok_setX (P := l.prog) (w := w) (base := base) DDependencySet DDependencies DWritesIn BDependencies2 XDep GWritesIn
  have XSetB := ok_setBad (P := l.prog) (w := w) (base := base) DDependencySet DDependencies DWritesIn BDependencies2 XDepB GWritesIn
  have XSrc := ok_srcX (P := l.prog) (w := w) (base := base) DSourceOf DCheckLog DCheckRetracted DCheckReads DPositionIn DSourceBefore DWithoutRetracted XUnknownId.C rfl GCheckLog XCheckRetracted XCheckReads XPositionIn GSourceBefore GWithoutRetracted
  have XSrcB := ok_srcBad (P := l.prog) (w := w) (base := base) DSourceOf DCheckLog XCheckLog
  have GLawTake := ok_take (P := l.prog) (w := w) (base := base) DLawTake DLawMixed
  have GLawPick := ok_pick (P := l.prog) (w := w) (base := base) DLawPick DLawTake b_len GLawTake
  have GLawSome := ok_some (P := l.prog) (w := w) (base := base) DLawSome DLawTake b_len b_list b_tuple b_sorted b_range b_min GLawTake
  have GLawCells := ok_cells (P := l.prog) (w := w) (base := base) DLawCells DLawTake b_len b_sorted b_range GLawTake
  have GLawIds := ok_ids (P := l.prog) (w := w) (base := base) DLawIds DLawTake b_len b_str b_range b_min GLawTake
  have GLawPrice := ok_price (P := l.prog) (w := w) (base := base) DLawPrice DLawTake DLawPick GLawTake GLawPick
  have GLawLog := ok_log (P := l.prog) (w := w) (base := base) DLawLog DLawTake DLawPick DLawPrice DLawSome DLawIds b_tuple GLawTake GLawPick GLawPrice GLawSome GLawIds
  have GLawBegin := ok_begin (P := l.prog) (w := w) (base := base) DLawBegin b_abs
  have GLawIsCell := ok_lcell (P := l.prog) (w := w) (base := base) DLawIsCell b_isinstance b_len b_str
  have GLawGoal := ok_goal4 (P := l.prog) (w := w) (base := base) DLawGoal DLawPick GLawPick
  have GLawGoneExpected := ok_gonexp (P := l.prog) (w := w) (base := base) DLawGoneExpected b_isinstance b_len b_str b_list b_tuple b_dict
  have GLawGoalExpected := ok_goalexp (P := l.prog) (w := w) (base := base) DLawGoalExpected DLawIsCell b_isinstance b_len b_str b_tuple b_dict GLawIsCell
  have GLawReadExpected := ok_readexp (P := l.prog) (w := w) (base := base) DLawReadExpected DLawIsCell b_isinstance b_str b_dict GLawIsCell
  exact ok_law DLaw CLaw DLawBegin DLawTake DLawPick DLawCells DLawLog DLawGoal DLawGoneExpected DLawGoalExpected DLawReadExpected DLawResult DDependencies DDependencySet DSourceOf BDependencies2 BDependencySet2 BSourceOf3 b_len b_range b_min b_isinstance b_repr b_list b_tuple b_zip b_ValueError Te (errFld_of hf0) (errFld_of hf1) (errFld_of hf2) (errFld_of hf3) (errCls_of (hcl 0 (by decide))) (errCls_of (hcl 1 (by decide))) (errCls_of (hcl 2 (by decide))) (errCls_of (hcl 4 (by decide))) TB GLawBegin GLawTake GLawPick GLawCells GLawLog GLawGoal GLawGoneExpected GLawGoalExpected GLawReadExpected (NV.FnOk.or XDep XDepB) (NV.FnOk.or XSet XSetB) (NV.FnOk.or XSrc XSrcB)
end NV
open PySem PySem.W PyProof.Rows
set_option maxRecDepth 100000 in
set_option maxHeartbeats 0 in
theorem PySem.Challenge.cw_neverwas_k04_retractions_and_targets_ref_holds : PySem.Challenge.rw_neverwas_k04_retractions_and_targets_ref.Holds := by
  w_on; o_law; k_head; (case hw => w_witness2)
  k_fill
  refine NV.walk_ofG (l := PySem.Challenge.rw_neverwas_k04_retractions_and_targets_ref) (n := 63) (k := 15) (x := "script") rfl (by decide) rfl ⟨rfl, by decide, by decide⟩ (fun w h Y => PySem.W.km_in_of Y) ?F
  case F =>
    intro w mg fa h Y KX G hmg
    refine' NV.all_mk KX G hmg ?aIsIntegerWithin ?aIsId ?aIsCell ?aIsCells ?aIsPrice ?aIsEntryWith ?aIsLogWithin ?aIsLog ?aCellsWritten ?aIsWriteAt ?aIsReadAt ?aCheckLog ?aCheckReads ?aPositionIn ?aCheckRetracted ?aCheckMayBeRetracted ?aCheckTarget ?aWithoutRetracted ?aSourceBefore ?aTriplesOf ?aWritesIn ?aLawBegin ?aLawMixed ?aLawTake ?aLawPick ?aLawSome ?aLawCells ?aLawIds ?aLawPrice ?aLawLog ?aLawResult ?aLawIsCell ?aLawGoneExpected ?aLawGoalExpected ?aLawReadExpected ?aLawGoal ?aLaw ?lLaw ?vLaw ?hLaw ?nLaw ?tLaw ?xLogError ?xInvalidLog ?xUnknownId ?xUnknownCell ?xSealedWrite ?xDuplicateId ?xInvalidBudget ?xNotCompact ?eAll ?eInvalidLog ?eInvalidBudget ?eNotCompact ?mUnknownId ?nUnknownId ?oUnknownId ?mUnknownCell ?nUnknownCell ?oUnknownCell ?mSealedWrite ?nSealedWrite ?oSealedWrite ?aDependencies ?aDependencySet ?aSourceOf ?iKIND ?iID ?iREADS ?iWRITES ?iPRICE ?iLONGEST_CELL ?iLONGEST_ID ?iMOST_CELLS ?iHIGHEST_PRICE ?iMOST_ENTRIES ?iEND ?z_ValueError ?z_abs ?z_bool ?z_dict ?z_enumerate ?z_int ?z_isinstance ?z_len ?z_list ?z_min ?z_range ?z_repr ?z_reversed ?z_sorted ?z_str ?z_tuple ?z_zip
    (case aLaw => refine' NV.atC_mk ?a ?l ?c ?k; (case a => k_is); (case l => k_is); (case c => k_is); (case k => k_is))
    (case lLaw => k_is)
    (case vLaw => exact rfl)
    (case hLaw => kernel_rfl)
    (case nLaw => kernel_rfl)
    (case tLaw => exact PySem.W.km_tabs_of Y _ (by k_mem))
    (case xLogError => k_is)
    (case xInvalidLog => k_is)
    (case xUnknownId => k_is)
    (case xUnknownCell => k_is)
    (case xSealedWrite => k_is)
    (case xDuplicateId => k_is)
    (case xInvalidBudget => k_is)
    (case xNotCompact => k_is)
    (case eAll => kernel_rfl)
    (case eInvalidLog => kernel_rfl)
    (case eInvalidBudget => kernel_rfl)
    (case eNotCompact => kernel_rfl)
    (case mUnknownId => k_is)
    (case nUnknownId => refine' NV.atInit_mk ?l ?c; (case l => k_is); (case c => k_is))
    (case oUnknownId => kernel_rfl)
    (case mUnknownCell => k_is)
    (case nUnknownCell => refine' NV.atInit_mk ?l ?c; (case l => k_is); (case c => k_is))
    (case oUnknownCell => kernel_rfl)
    (case mSealedWrite => k_is)
    (case nSealedWrite => refine' NV.atInit_mk ?l ?c; (case l => k_is); (case c => k_is))
    (case oSealedWrite => kernel_rfl)
    (case aIsIntegerWithin => refine' NV.at_mk ?a ?l ?c ?k; (case a => k_is); (case l => k_is); (case c => k_is); (case k => k_is))
    (case aIsId => refine' NV.at_mk ?a ?l ?c ?k; (case a => k_is); (case l => k_is); (case c => k_is); (case k => k_is))
    (case aIsCell => refine' NV.at_mk ?a ?l ?c ?k; (case a => k_is); (case l => k_is); (case c => k_is); (case k => k_is))
    (case aIsCells => refine' NV.at_mk ?a ?l ?c ?k; (case a => k_is); (case l => k_is); (case c => k_is); (case k => k_is))
    (case aIsPrice => refine' NV.at_mk ?a ?l ?c ?k; (case a => k_is); (case l => k_is); (case c => k_is); (case k => k_is))
    (case aIsEntryWith => refine' NV.at_mk ?a ?l ?c ?k; (case a => k_is); (case l => k_is); (case c => k_is); (case k => k_is))
    (case aIsLogWithin => refine' NV.at_mk ?a ?l ?c ?k; (case a => k_is); (case l => k_is); (case c => k_is); (case k => k_is))
    (case aIsLog => refine' NV.at_mk ?a ?l ?c ?k; (case a => k_is); (case l => k_is); (case c => k_is); (case k => k_is))
    (case aCellsWritten => refine' NV.at_mk ?a ?l ?c ?k; (case a => k_is); (case l => k_is); (case c => k_is); (case k => k_is))
    (case aIsWriteAt => refine' NV.at_mk ?a ?l ?c ?k; (case a => k_is); (case l => k_is); (case c => k_is); (case k => k_is))
    (case aIsReadAt => refine' NV.at_mk ?a ?l ?c ?k; (case a => k_is); (case l => k_is); (case c => k_is); (case k => k_is))
    (case aCheckLog => refine' NV.at_mk ?a ?l ?c ?k; (case a => k_is); (case l => k_is); (case c => k_is); (case k => k_is))
    (case aCheckReads => refine' NV.at_mk ?a ?l ?c ?k; (case a => k_is); (case l => k_is); (case c => k_is); (case k => k_is))
    (case aPositionIn => refine' NV.at_mk ?a ?l ?c ?k; (case a => k_is); (case l => k_is); (case c => k_is); (case k => k_is))
    (case aCheckRetracted => refine' NV.at_mk ?a ?l ?c ?k; (case a => k_is); (case l => k_is); (case c => k_is); (case k => k_is))
    (case aCheckMayBeRetracted => refine' NV.at_mk ?a ?l ?c ?k; (case a => k_is); (case l => k_is); (case c => k_is); (case k => k_is))
    (case aCheckTarget => refine' NV.at_mk ?a ?l ?c ?k; (case a => k_is); (case l => k_is); (case c => k_is); (case k => k_is))
    (case aWithoutRetracted => refine' NV.at_mk ?a ?l ?c ?k; (case a => k_is); (case l => k_is); (case c => k_is); (case k => k_is))
    (case aSourceBefore => refine' NV.at_mk ?a ?l ?c ?k; (case a => k_is); (case l => k_is); (case c => k_is); (case k => k_is))
    (case aTriplesOf => refine' NV.at_mk ?a ?l ?c ?k; (case a => k_is); (case l => k_is); (case c => k_is); (case k => k_is))
    (case aWritesIn => refine' NV.at_mk ?a ?l ?c ?k; (case a => k_is); (case l => k_is); (case c => k_is); (case k => k_is))
    (case aLawBegin => refine' NV.at_mk ?a ?l ?c ?k; (case a => k_is); (case l => k_is); (case c => k_is); (case k => k_is))
    (case aLawMixed => refine' NV.at_mk ?a ?l ?c ?k; (case a => k_is); (case l => k_is); (case c => k_is); (case k => k_is))
    (case aLawTake => refine' NV.at_mk ?a ?l ?c ?k; (case a => k_is); (case l => k_is); (case c => k_is); (case k => k_is))
    (case aLawPick => refine' NV.at_mk ?a ?l ?c ?k; (case a => k_is); (case l => k_is); (case c => k_is); (case k => k_is))
    (case aLawSome => refine' NV.at_mk ?a ?l ?c ?k; (case a => k_is); (case l => k_is); (case c => k_is); (case k => k_is))
    (case aLawCells => refine' NV.at_mk ?a ?l ?c ?k; (case a => k_is); (case l => k_is); (case c => k_is); (case k => k_is))
    (case aLawIds => refine' NV.at_mk ?a ?l ?c ?k; (case a => k_is); (case l => k_is); (case c => k_is); (case k => k_is))
    (case aLawPrice => refine' NV.at_mk ?a ?l ?c ?k; (case a => k_is); (case l => k_is); (case c => k_is); (case k => k_is))
    (case aLawLog => refine' NV.at_mk ?a ?l ?c ?k; (case a => k_is); (case l => k_is); (case c => k_is); (case k => k_is))
    (case aLawResult => refine' NV.at_mk ?a ?l ?c ?k; (case a => k_is); (case l => k_is); (case c => k_is); (case k => k_is))
    (case aLawIsCell => refine' NV.at_mk ?a ?l ?c ?k; (case a => k_is); (case l => k_is); (case c => k_is); (case k => k_is))
    (case aLawGoneExpected => refine' NV.at_mk ?a ?l ?c ?k; (case a => k_is); (case l => k_is); (case c => k_is); (case k => k_is))
    (case aLawGoalExpected => refine' NV.at_mk ?a ?l ?c ?k; (case a => k_is); (case l => k_is); (case c => k_is); (case k => k_is))
    (case aLawReadExpected => refine' NV.at_mk ?a ?l ?c ?k; (case a => k_is); (case l => k_is); (case c => k_is); (case k => k_is))
    (case aLawGoal => refine' NV.at_mk ?a ?l ?c ?k; (case a => k_is); (case l => k_is); (case c => k_is); (case k => k_is))
    (case aDependencies => refine' NV.atQ_mk ?a ?l ?c ?k ?dq ?pq; (case a => k_is); (case l => k_is); (case c => k_is); (case k => k_is); (case dq => k_is); (case pq => refine' NV.tup0_mk ?tq; (case tq => k_is)))
    (case aDependencySet => refine' NV.atQ_mk ?a ?l ?c ?k ?dq ?pq; (case a => k_is); (case l => k_is); (case c => k_is); (case k => k_is); (case dq => k_is); (case pq => refine' NV.tup0_mk ?tq; (case tq => k_is)))
    (case aSourceOf => refine' NV.atQ_mk ?a ?l ?c ?k ?dq ?pq; (case a => k_is); (case l => k_is); (case c => k_is); (case k => k_is); (case dq => k_is); (case pq => refine' NV.tup0_mk ?tq; (case tq => k_is)))
    (case iKIND => refine' NV.atI_mk ?a; (case a => k_is))
    (case iID => refine' NV.atI_mk ?a; (case a => k_is))
    (case iREADS => refine' NV.atI_mk ?a; (case a => k_is))
    (case iWRITES => refine' NV.atI_mk ?a; (case a => k_is))
    (case iPRICE => refine' NV.atI_mk ?a; (case a => k_is))
    (case iLONGEST_CELL => refine' NV.atI_mk ?a; (case a => k_is))
    (case iLONGEST_ID => refine' NV.atI_mk ?a; (case a => k_is))
    (case iMOST_CELLS => refine' NV.atI_mk ?a; (case a => k_is))
    (case iHIGHEST_PRICE => refine' NV.atI_mk ?a; (case a => k_is))
    (case iMOST_ENTRIES => refine' NV.atI_mk ?a; (case a => k_is))
    (case iEND => refine' NV.atS_mk ?a; (case a => k_is))
    (case z_ValueError => k_is)
    (case z_abs => k_is)
    (case z_bool => k_is)
    (case z_dict => k_is)
    (case z_enumerate => k_is)
    (case z_int => k_is)
    (case z_isinstance => k_is)
    (case z_len => k_is)
    (case z_list => k_is)
    (case z_min => k_is)
    (case z_range => k_is)
    (case z_repr => k_is)
    (case z_reversed => k_is)
    (case z_sorted => k_is)
    (case z_str => k_is)
    (case z_tuple => k_is)
    (case z_zip => k_is)
