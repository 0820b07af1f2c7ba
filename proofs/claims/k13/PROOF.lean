import PyProof.Rows.All
import Wide.All
import OpenK.AllK
import Wide.FinOn
import HandS.ForMost
import HandS.Strs
import HandS.IsInst
import HandS.Codes
import PyProof.Rows.StrMeet
import PyProof.Rows.StrRevDown
import PyProof.ReprRoads
import PyProof.CallFns
import HandS.EndTab
import KE.DataMinMax
import HandS.SetFor
import HandS.SetBool
import PyProof.StrLawsIn
import PyProof.NeKinds
import PyProof.Rows.ReprOcc
import HandS.TupAny
import PyProof.Rows.StrAscii
import HandS.StrMore
import PyProof.EqKinds
import PyProof.FactsAll.dict_1
import HandS.Style
import HandS.AnyAll
import HandS.GenList
import HandS.Small
import HandS.Rev
import HandS.Flow
import HandS.SortKw
import HandS.Defaults
import HandS.Iter
import KE.GoesMore
import HandS.DictComp
import HandS.DictTup
import KE.KDictDisplayH
import HandS.SetKeys
import HandS.Dict
import KE.KDictLaws
import HandS.More
import PyProof.P3Eq
import HandS.Conv
import HandS.ListItems
import PySem.Challenge.RW_neverwas_k13_whole_answers_of_kept_entri
/-! Base -/
set_option Elab.async false
set_option linter.all false
set_option maxRecDepth 100000
namespace NV
open PySem PySem.Spec PyProof.Rows L2
def topS (i : Nat) : Stmt := PySem.Challenge.pw_neverwas_k13_whole_answers_of_kept_entri.main.body.getD i (.Pass ⟨0, 0, 0, 0⟩)
/-- a def of the top: where it stands, and that its name still holds it -/
structure Fn (K : PySem.W.Frag) (mg : Str → Option Value) (nm : Str) (st : Stmt) (ps : List Str) : Type where
  f : Addr
  fd : FuncData
  F : Fun K nm nm st f fd
  m : mg nm = some (.ref f)
  b : Binds K fd ps []
section
variable {X : Cx}
theorem pe_fn {nm : Str} {st : Stmt} {ps : List Str} {sp : Sp} {e : Expr} {es : List Expr} {t : TA} {p pos : Pos} {j k : Nat} (D : Fn X.K X.mg nm st ps) (G : FnOk X.prog X.w X.K X.mg X.base CX0 j D.f D.fd ps sp) (hr : Room k X.A) (ha : PA X (e :: es) t)
    (hk : j ≤ k := by decide) (hg : Gl X nm := by rfl) (hdb : (nm == ("__debug__" : Str)) = false := by decide) (he : starEach (e :: es) X.env = (false, eval e X.env) :: starEach es X.env := by rfl) (hpl : (backTo pos (starEach es X.env)).any (·.1) = false := by rfl) :
    PE X (.Call (.Name nm p) (e :: es) [] pos) (tCall sp [] (fun _ _ _ => False) t) := pe_call G (hr.mono hk) hg D.m D.F.kp D.b .nil pass0 ha hdb he hpl
end
/-! ### the rules whose reading names the written part, with that part as an argument: for the blocks of comprehensions -/
section
variable {X : Cx}
theorem lenE (K : PySem.W.Frag) (h : X.K = K := by rfl) : CallR X (.builtin "len") (fun xs H Q => ∃ p ys, xs = [.ref p] ∧ (SqL K H p ys ∨ SqT K H p ys) ∧ Q (.int ys.length) H) := by
  rw [← h]; exact call_len_seq
theorem lenVE (K : PySem.W.Frag) (h : X.K = K := by rfl) : CallR X (.builtin "len") (fun xs H Q => ∃ x n, xs = [x] ∧ LenV K x H n ∧ Q (.int n) H) := by
  rw [← h]; exact call_len
theorem listE (K : PySem.W.Frag) (h : X.K = K := by rfl) : CallR X (.type "list") (fun xs H Q => ∃ p ys, xs = [.ref p] ∧ (SqL K H p ys ∨ SqT K H p ys) ∧ ∀ l, H l = none → Q (.ref l) (upd H l (.lst ys))) := by
  rw [← h]; exact call_list_of
theorem sortedE (K : PySem.W.Frag) (h : X.K = K := by rfl) : CallR X (.builtin "sorted") (rSortedS K) := by
  rw [← h]; exact cr_sortedS
theorem ixlE (K : PySem.W.Frag) (h : X.K = K := by rfl) : IxR X (rIxL K) := by
  rw [← h]; exact ix_list
theorem ixtE (K : PySem.W.Frag) (h : X.K = K := by rfl) : IxR X (rIxT K) := by
  rw [← h]; exact ix_tup
theorem sllE (K : PySem.W.Frag) (h : X.K = K := by rfl) : SlR X (rSlL K) := by
  rw [← h]; exact sl_list
theorem sltE (K : PySem.W.Frag) (h : X.K = K := by rfl) : SlR X (rSlT K) := by
  rw [← h]; exact sl_tup
theorem inE (K : PySem.W.Frag) (h : X.K = K := by rfl) : OpR X (compareOp .In) (rIn K false) := by
  rw [← h]; exact op_in_seq
theorem notInE (K : PySem.W.Frag) (h : X.K = K := by rfl) : OpR X (compareOp .NotIn) (rIn K true) := by
  rw [← h]; exact op_notIn_seq
theorem eqDE (K : PySem.W.Frag) (hu : X.A.units + 64 < cLine) (h : X.K = K := by rfl) : OpR X (compareOp .Eq) (rEqD K) := by
  rw [← h]; exact op_eqD hu
theorem neDE (K : PySem.W.Frag) (hu : X.A.units + 64 < cLine) (h : X.K = K := by rfl) : OpR X (compareOp .NotEq) (rNeD K) := by
  rw [← h]; exact op_neD hu
theorem bmE (K : PySem.W.Frag) {T name id : String} {r : V → List V → Hp → VK → Prop} {o e : Expr} {es : List Expr} {to : TE} {t : TA} {apos cpos : Pos} (pa : PlainAttrs T) (slot : Slot T name id) (hty : typeOf (.builtin id) = pure (.type "method_descriptor")) (hm : MtR X id r) (ho : PE X o to) (ha : PA X (e :: es) t) (h : X.K = K := by rfl)
    (hbase : attributeBase o name X.env (eval o X.env) = eval o X.env := by rfl)
    (hfew : ((backTo cpos (starEach (e :: es) X.env)).all (fun x => !x.1) && (backToKw cpos (keywordEach [] X.env)).all (fun x => x.1.isSome)
      && decide ((e :: es).length + ([] : List Keyword).length + (if ([] : List Keyword).isEmpty then 0 else 1) < 30)) = true := by rfl)
    (hline : (apos.endLine == cpos.line) = true := by rfl) (hs : starEach (e :: es) X.env = (false, eval e X.env) :: starEach es X.env := by rfl) (hplain : (backTo cpos (starEach es X.env)).any (·.1) = false := by rfl) :
    PE X (.Call (.Attribute o name apos) (e :: es) [] cpos) (tBM K T r to t) := by
  rw [← h]; exact pe_bm pa slot hty hm ho ha hbase hfew hline hs hplain
theorem piListE (K : PySem.W.Frag) {tg l : Expr} {tl : TE} (hl : PE X l tl) (h : X.K = K := by rfl) : PI X tg l (iList K tl) := by
  rw [← h]; exact pi_list hl
theorem piTupE (K : PySem.W.Frag) {tg l : Expr} {tl : TE} (hl : PE X l tl) (h : X.K = K := by rfl) : PI X tg l (iTup K tl) := by
  rw [← h]; exact pi_tup hl
end
/-! ### what is kept -/
/-- all but ex stands as it stood -/
def Kp (ex : List Addr) (H H' : Hp) : Prop := ∀ b o, b ∉ ex → H b = some o → H' b = some o
theorem Kp.refl {ex : List Addr} {H : Hp} : Kp ex H H := fun _ _ _ e => e
theorem Kp.trans {ex : List Addr} {H H1 H2 : Hp} (a : Kp ex H H1) (b : Kp ex H1 H2) : Kp ex H H2 := fun c o h e => b c o h (a c o h e)
theorem Kp.of {ex : List Addr} {H H' : Hp} (a : Same H H') : Kp ex H H' := fun b o _ e => a b o e
theorem Kp.laid {ex : List Addr} {H : Hp} {p : Addr} {o : HO} (h : H p = none) : Kp ex H (upd H p o) := fun b u _ e => by rw [upd_ne (ne_of_none e h)]; exact e
theorem Kp.put {ex : List Addr} {H : Hp} {p : Addr} {o : HO} (h : p ∈ ex) : Kp ex H (upd H p o) := fun b u hb e => by rw [upd_ne (fun q => hb (by rw [q]; exact h))]; exact e
theorem Kp.mono {ex ex' : List Addr} {H H' : Hp} (a : Kp ex H H') (h : ∀ b ∈ ex, b ∈ ex') : Kp ex' H H' := fun b o hb e => a b o (fun z => hb (h b z)) e
/-! ### the law's draws -/
/-- the draw's dict, its list of great numbers, its list of all -/
structure Dr where
  d : Addr
  l : Addr
  it : Addr
abbrev Dr.ex (D : Dr) : List Addr := [D.d, D.l]
abbrev Dr.all (D : Dr) : List Addr := [D.d, D.l, D.it]
theorem Dr.sub {D : Dr} {p : Addr} (h : p ∉ D.all) : p ∉ D.ex := fun z => h (by
  rcases List.mem_cons.mp z with z | z
  · rw [z]; exact List.mem_cons_self
  · rw [List.mem_singleton.mp z]; exact List.mem_cons_of_mem _ List.mem_cons_self)
abbrev kLarge : Key := Sum.inr "large"
abbrev kItems : Key := Sum.inr "items"
abbrev kLeft : Key := Sum.inr "left"
abbrev kTurn : Key := Sum.inr "turn"
def drV (D : Dr) (left turn : Int) : List (Key × V) := [(kLarge, .ref D.l), (kItems, .ref D.it), (kLeft, .int left), (kTurn, .int turn)]
/-- n more draws are allowed -/
structure DrAt (D : Dr) (n : Nat) (H : Hp) : Prop where
  ne : D.it ≠ D.l
  at_ : ∃ (large items : List Int) (left turn : Int), H D.d = some (.dK (drV D left turn)) ∧ H D.l = some (.lst (large.map V.int)) ∧ H D.it = some (.lst (items.map V.int)) ∧
    (0 ≤ left ∧ 0 ≤ turn ∧ turn + n ≤ 1000000000) ∧ (∀ x ∈ large, 0 ≤ x) ∧ ∀ x ∈ items, 0 ≤ x
theorem DrAt.less {D : Dr} {n m : Nat} {H : Hp} (h : DrAt D n H) (hm : m ≤ n) : DrAt D m H := by
  obtain ⟨h0, large, items, left, turn, h1, h2, h3, ⟨h4, h5, h6⟩, h7, h8⟩ := h
  exact ⟨h0, large, items, left, turn, h1, h2, h3, ⟨h4, h5, by omega⟩, h7, h8⟩
theorem DrAt.keep {D : Dr} {n : Nat} {H H' : Hp} (h : DrAt D n H) (k : Kp [] H H') : DrAt D n H' := by
  obtain ⟨h0, large, items, left, turn, h1, h2, h3, h4⟩ := h
  exact ⟨h0, large, items, left, turn, k _ _ (by simp) h1, k _ _ (by simp) h2, k _ _ (by simp) h3, h4⟩
theorem DrAt.upd {D : Dr} {n : Nat} {H : Hp} {p : Addr} {o : HO} (h : DrAt D n H) (hp : p ∉ D.all) : DrAt D n (upd H p o) := by
  obtain ⟨h0, large, items, left, turn, h1, h2, h3, h4⟩ := h
  have n1 : D.d ≠ p := fun z => hp (by rw [← z]; exact List.mem_cons_self)
  have n2 : D.l ≠ p := fun z => hp (by rw [← z]; exact List.mem_cons_of_mem _ List.mem_cons_self)
  have n3 : D.it ≠ p := fun z => hp (by rw [← z]; exact List.mem_cons_of_mem _ (List.mem_cons_of_mem _ List.mem_cons_self))
  exact ⟨h0, large, items, left, turn, by rw [upd_ne n1]; exact h1, by rw [upd_ne n2]; exact h2, by rw [upd_ne n3]; exact h3, h4⟩
theorem DrAt.fresh {D : Dr} {n : Nat} {H : Hp} (h : DrAt D n H) {p : Addr} (hp : H p = none) : p ∉ D.all := by
  obtain ⟨_, large, items, left, turn, h1, h2, h3, _⟩ := h
  intro z
  rcases List.mem_cons.mp z with z | z
  · rw [z, h1] at hp; cases hp
  · rcases List.mem_cons.mp z with z | z
    · rw [z, h2] at hp; cases hp
    · rw [List.mem_singleton.mp z, h3] at hp; cases hp
end NV
/-! D1 -/
set_option Elab.async false
set_option linter.all false
set_option maxRecDepth 100000
set_option maxHeartbeats 400000
namespace NV
open PySem PySem.Spec PyProof.Rows L2
theorem ne_lk : ¬ (kLarge = kItems) ∧ ¬ (kLarge = kLeft) ∧ ¬ (kLarge = kTurn) ∧ ¬ (kItems = kLeft) ∧ ¬ (kItems = kTurn) ∧ ¬ (kLeft = kTurn) := by decide +kernel
theorem dr_large {D : Dr} {l t : Int} : valV (drV D l t) kLarge = some (.ref D.l) := valV_pos rfl
theorem dr_items {D : Dr} {l t : Int} : valV (drV D l t) kItems = some (.ref D.it) := (valV_neg ne_lk.1).trans (valV_pos rfl)
theorem dr_left {D : Dr} {l t : Int} : valV (drV D l t) kLeft = some (.int l) := (valV_neg ne_lk.2.1).trans ((valV_neg ne_lk.2.2.2.1).trans (valV_pos rfl))
theorem dr_turn {D : Dr} {l t : Int} : valV (drV D l t) kTurn = some (.int t) := (valV_neg ne_lk.2.2.1).trans ((valV_neg ne_lk.2.2.2.2.1).trans ((valV_neg ne_lk.2.2.2.2.2).trans (valV_pos rfl)))
theorem dr_putLeft {D : Dr} {l t z : Int} : putK (drV D l t) kLeft (.int z) = drV D z t := by
  obtain ⟨h1, h2, h3, h4, h5, h6⟩ := ne_lk
  unfold putK drV
  rw [if_pos (by simp [h2, h4])]
  simp [h2, h4, Ne.symm h6]
theorem dr_putTurn {D : Dr} {l t z : Int} : putK (drV D l t) kTurn (.int z) = drV D l z := by
  obtain ⟨h1, h2, h3, h4, h5, h6⟩ := ne_lk
  unfold putK drV
  rw [if_pos (by simp [h3, h5, h6])]
  simp [h3, h5, h6]
theorem DrAt.nd {D : Dr} {n : Nat} {H : Hp} (h : DrAt D n H) : D.d ≠ D.l ∧ D.d ≠ D.it := by
  obtain ⟨h0, large, items, left, turn, h1, h2, h3, h4⟩ := h
  exact ⟨ne_of h1 h2 (by intro z; cases z), ne_of h1 h3 (by intro z; cases z)⟩

theorem fmod_in {i j : Int} (h : 0 < j) : 0 ≤ i.fmod j ∧ i.fmod j < j := by
  rw [Int.fmod_eq_emod_of_nonneg i (Int.le_of_lt h)]
  exact ⟨Int.emod_nonneg i (by omega), Int.emod_lt_of_pos i h⟩
theorem fdiv_in {i j : Int} (h0 : 0 ≤ i) (h : 0 < j) : 0 ≤ i.fdiv j ∧ i.fdiv j ≤ i := by
  rw [Int.fdiv_eq_ediv_of_nonneg i (Int.le_of_lt h)]
  exact ⟨Int.ediv_nonneg h0 (Int.le_of_lt h), Int.ediv_le_self j h0⟩

abbrev sLawMixed : Stmt := topS 56
theorem scLawMixed : FnScope ["draw", "number", "prime", "part", "item"] ["draw"] (defScope sLawMixed) := ⟨rfl, rfl, rfl, by decide +kernel, rfl, by decide +kernel, by decide +kernel⟩
def spMixed : Sp := fun vs H Q _ => ∃ (D : Dr) (n : Nat), vs = [.ref D.d] ∧ DrAt D (n + 1) H ∧ ∀ z H', 0 ≤ z → Kp [D.d] H H' → DrAt D n H' → Q (.int z) H'
section
variable {P : Program} {w : World} {K : PySem.W.Frag} {mg : Str → Option Value} {base : Heap}
theorem ok_mixed (D : Fn K mg "_law_mixed" sLawMixed ["draw"]) : FnOk P w K mg base CX0 1 D.f D.fd ["draw"] spMixed := by
  refine D.F.ok scLawMixed (fun vs H Q E h => ?_) (fun cdv A outer s H vs Q E hr h => ?_)
  · obtain ⟨D, n, rfl, _⟩ := h
    rfl
  obtain ⟨D, n, rfl, hD, q⟩ := h
  have hu := hu_of hr
  obtain ⟨nd1, nd2⟩ := hD.nd
  obtain ⟨ne, large, items, left, turn, h1, h2, h3, ⟨h4, h5, h6⟩, h7, h8⟩ := hD
  refine ⟨_, pss_cons (ps_dput hu (pv 0) pe_str (pe_op op_add (pe_dget hu (pv 0) pe_str (fun _ _ => rfl)) pe_int) rfl)
      (pss_cons (ps_set (i := 1) scLawMixed.nd rfl (.inl rfl) pe_int)
      (pss_cons (ps_for PassesOwn.never rfl (pi_list (pe_lst (pa_cons pe_int (pa_cons pe_int (pa_cons pe_int (pa_cons pe_int pa_nil)))))) (pg_name (i := 2) scLawMixed.nd rfl (.inl rfl))
      (pss_cons (ps_set (i := 3) scLawMixed.nd rfl (.inl rfl) (pe_op op_add (pe_op op_mul pe_int (pe_dget hu (pv 0) pe_str (fun _ _ => rfl))) (pe_op op_fdivN (pv 2) pe_int)))
      (pss_cons (ps_for PassesOwn.never rfl (pi_list (pe_dget hu (pv 0) pe_str (fun _ _ => rfl))) (pg_name (i := 4) scLawMixed.nd rfl (.inl rfl))
      (pss_one (ps_set (i := 3) scLawMixed.nd rfl (.inl rfl) (pe_op op_modN (pe_op op_add (pe_op op_mul (pv 3) pe_int) (pv 4)) (pv 2)))))
      (pss_one (ps_set (i := 1) scLawMixed.nd rfl (.inl rfl) (pe_op op_add (pe_op op_mul (pv 1) pe_int) (pe_op op_modN (pe_op op_pow (pv 3) pe_int) (pv 2))))))))
      (pss_one (ps_ret (pv 1))))), ?_⟩
  -- draw['turn'] = draw['turn'] + 1
  refine ⟨_, rfl, D.d, .int turn, rfl, dr_turn ▸ DGet.k (k := kTurn) h1, turn, 1, rfl, rfl, _, rfl, D.d, _, rfl, DPut.k (k := kTurn) h1 (by show 4 < sizeLine; decide), ?_⟩
  rw [dr_putTurn]
  have g1 : Kp [D.d] H (upd H D.d (.dK (drV D left (turn + 1)))) := Kp.put (by simp)
  have d1 : DrAt D n (upd H D.d (.dK (drV D left (turn + 1)))) := ⟨ne, large, items, left, turn + 1, upd_same, by rw [upd_ne (Ne.symm nd1)]; exact h2, by rw [upd_ne (Ne.symm nd2)]; exact h3, ⟨h4, by omega, by omega⟩, h7, h8⟩
  generalize upd H D.d (.dK (drV D left (turn + 1))) = H1 at g1 d1
  -- number = 0; the four primes
  refine ⟨by show 4 ≤ sizeLine; decide, fun p hp => ?_⟩
  have g2 : Kp [D.d] H (upd H1 p (.lst [V.int 2147483629, V.int 2147483587, V.int 2147483579, V.int 2147483563])) := g1.trans (Kp.laid hp)
  have d2 : DrAt D n (upd H1 p (.lst [V.int 2147483629, V.int 2147483587, V.int 2147483579, V.int 2147483563])) := d1.keep (Kp.laid hp)
  have e2 : upd H1 p (.lst [V.int 2147483629, V.int 2147483587, V.int 2147483579, V.int 2147483563]) p = some (.lst [V.int 2147483629, V.int 2147483587, V.int 2147483579, V.int 2147483563]) := upd_same
  generalize upd H1 p (.lst [V.int 2147483629, V.int 2147483587, V.int 2147483579, V.int 2147483563]) = H2 at g2 d2 e2 ⊢
  obtain ⟨_, large', items', left', turn', k1, k2, k3, ⟨k4, k5, k6⟩, k7, k8⟩ := id d2
  refine ⟨p, rfl, ⟨_, SqL.of e2⟩, for_list (K := K) (a := p) (xs := [V.int 2147483629, V.int 2147483587, V.int 2147483579, V.int 2147483563]) (fun i σ H' => ∃ (num : Int) (v2 v3 v4 : Option V), σ = [some (.ref D.d), some (.int num), v2, v3, v4] ∧ 0 ≤ num ∧ H' = H2)
    ⟨0, none, none, none, rfl, Int.le_refl 0, rfl⟩ (fun i σ H' _ ⟨_, _, _, _, _, _, e⟩ => by rw [e]; exact SqL.of e2) ?_ ?_⟩
  · rintro i y σ H' hi ⟨num, v2, v3, v4, rfl, hn, rfl⟩
    obtain ⟨pr, rfl, hp0, hp1⟩ : ∃ pr : Int, y = .int pr ∧ 1000 < pr ∧ pr < 2147483648 := by
      match i, hi with
      | 0, h => exact ⟨_, (Option.some.inj h).symm, by decide, by decide⟩
      | 1, h => exact ⟨_, (Option.some.inj h).symm, by decide, by decide⟩
      | 2, h => exact ⟨_, (Option.some.inj h).symm, by decide, by decide⟩
      | 3, h => exact ⟨_, (Option.some.inj h).symm, by decide, by decide⟩
      | j + 4, h => simp at h
    refine ⟨_, rfl, D.d, .int turn', rfl, dr_turn ▸ DGet.k (k := kTurn) k1, 92821, turn', rfl, rfl, .inl (by decide), _, rfl, pr, 13, rfl, rfl, ⟨by decide, by decide⟩, _, _, rfl, rfl, ?_⟩
    -- for item in draw['items']
    refine ⟨_, rfl, D.d, _, rfl, dr_items ▸ DGet.k (k := kItems) k1, D.it, rfl, ⟨_, SqL.of k3⟩, for_list (K := K) (a := D.it) (xs := items'.map V.int) (fun i σ H2' => ∃ (part : Int) (v4 : Option V), σ = [some (.ref D.d), some (.int num), some (.int pr), some (.int part), v4] ∧ 0 ≤ part ∧ part < 18446744073709551616 ∧ H2' = H')
      ⟨_, v4, rfl, ?_, ?_, rfl⟩ (fun i σ H2' _ ⟨_, _, _, _, _, e⟩ => by rw [e]; exact SqL.of k3) ?_ ?_⟩
    · have := (fdiv_in (i := pr) (j := 13) (by omega) (by decide)).1
      omega
    · have := (fdiv_in (i := pr) (j := 13) (by omega) (by decide)).2
      omega
    · rintro j y σ H2' hj ⟨part, v4', rfl, hp2, hp3, rfl⟩
      obtain ⟨it, rfl⟩ : ∃ it : Int, y = .int it := by
        rw [List.getElem?_map] at hj
        cases e : items'[j]? with
        | none => rw [e] at hj; cases hj
        | some z => rw [e] at hj; exact ⟨z, (Option.some.inj hj).symm⟩
      obtain ⟨m1, m2⟩ := fmod_in (i := part * 48271 + it) (j := pr) (by omega)
      refine ⟨_, rfl, part, 48271, rfl, rfl, .inr (by decide), _, rfl, _, it, rfl, rfl, _, rfl, _, pr, rfl, rfl, (by omega), _, some (.int it), rfl, m1, by omega, rfl⟩
    · rintro σ H2' ⟨part, v4', rfl, hp2, hp3, rfl⟩
      obtain ⟨m1, m2⟩ := fmod_in (i := part ^ (5 : Int).toNat) (j := pr) (by omega)
      refine ⟨_, rfl, num, 2147483647, rfl, rfl, .inr (by decide), _, rfl, part, 5, rfl, rfl, ⟨by decide, by decide, by omega⟩, _, rfl, _, pr, rfl, rfl, (by omega), _, _, rfl, rfl, _, _, _, _, rfl, ?_, rfl⟩
      have : 0 ≤ num * 2147483647 := Int.mul_nonneg hn (by decide)
      omega
  · rintro σ H' ⟨num, v2, v3, v4, rfl, hn, rfl⟩
    exact ⟨_, rfl, q num H' hn g2 d2⟩
end
end NV
/-! D2 -/
set_option Elab.async false
set_option linter.all false
set_option maxRecDepth 100000
set_option maxHeartbeats 400000
namespace NV
open PySem PySem.Spec PyProof.Rows L2
open C8 (pss_cut)
theorem dp_ints {K : PySem.W.Frag} {H : Hp} : ∀ ns : List Int, DpAll K H (ns.map V.int) (ns.map PyData.int)
  | [] => .nil
  | n :: r => .cons (.int n) (dp_ints r)
theorem ints_lay : ∀ ns : List Int, PyData.canLayAll0 (ns.map PyData.int) = true
  | [] => rfl
  | n :: r => ints_lay r
theorem ints_depth : ∀ ns : List Int, PyData.depthAll (ns.map PyData.int) = 0
  | [] => rfl
  | n :: r => by show max 0 (PyData.depthAll (r.map PyData.int)) = 0; rw [ints_depth r]; rfl
theorem ints_shaped (ns : List Int) : SeqAt.shaped (.list (ns.map .int)) = true := by
  unfold SeqAt.shaped
  rw [show PyData.canLay0 (.list (ns.map .int)) = true from ints_lay ns, show PyData.depth (.list (ns.map .int)) = 0 + 1 from congrArg (· + 1) (ints_depth ns)]
  rfl
theorem nil_shaped : SeqAt.shaped (.list []) = true := rfl
theorem eqv_nil : ∀ ds : List PyData, PyData.eqv (.list ds) (.list []) = ds.isEmpty
  | [] => rfl
  | _ :: _ => rfl

theorem dg_large {D : Dr} {l t : Int} {H : Hp} (h : H D.d = some (.dK (drV D l t))) : DGet H D.d (.str "large") (some (.ref D.l)) := dr_large ▸ DGet.k (k := kLarge) h
theorem sq_at {i : Int} {n : Nat} (h0 : 0 ≤ i) (h : i < n) : seqIndex? i n = some i.toNat := by
  unfold seqIndex?
  have e : (if i < 0 then i + (n : Int) else i) = i := if_neg (by omega)
  simp only [e]
  rw [if_pos (by simp [h0, h])]
abbrev sLawTake : Stmt := topS 57
theorem scLawTake : FnScope ["draw", "size", "digit"] ["draw", "size"] (defScope sLawTake) := ⟨rfl, rfl, rfl, by decide +kernel, rfl, by decide +kernel, by decide +kernel⟩
def spTake : Sp := fun vs H Q _ => ∃ (D : Dr) (n : Nat) (size : Int), vs = [.ref D.d, .int size] ∧ 0 < size ∧ size < 1073741824 ∧ DrAt D (n + 1) H ∧ ∀ i H', 0 ≤ i → i < size → Kp D.ex H H' → DrAt D n H' → Q (.int i) H'
section
variable {P : Program} {w : World} {K : PySem.W.Frag} {mg : Str → Option Value} {base : Heap}
theorem ok_take (D : Fn K mg "_law_take" sLawTake ["draw", "size"]) (M : Fn K mg "_law_mixed" sLawMixed ["draw"]) : FnOk P w K mg base CX0 2 D.f D.fd ["draw", "size"] spTake := by
  have GM : FnOk P w K mg base CX0 1 M.f M.fd ["draw"] spMixed := ok_mixed M
  refine D.F.ok scLawTake (fun vs H Q E h => ?_) (fun cdv A outer s H vs Q E hr h => ?_)
  · obtain ⟨D, n, size, rfl, _⟩ := h
    rfl
  obtain ⟨D, n, size, rfl, z0, z1, hD, q⟩ := h
  have hu := hu_of hr
  refine ⟨_, pss_cut (ps_if (pt_cmpR op_eq (pe_dget hu (pv 0) pe_str (fun _ _ => rfl)) pe_int (nomark _))
      (pss_one (ps_dput hu (pv 0) pe_str (pe_ifExp (pt_cmpR (op_neD hr.units) (pe_dget hu (pv 0) pe_str (fun _ _ => rfl)) (pe_lst pa_nil) (nomark _)) (pe_bm PySem.F.plainAttrs_list PySem.F.slot_list_pop PySem.F.type_list_pop mt_popAt (pe_dget hu (pv 0) pe_str (fun _ _ => rfl)) (pa_cons pe_int pa_nil)) (pe_fn M GM hr (pa_cons (pv 0) pa_nil))) rfl))
      pss_nil)
      (pss_cons (ps_set (i := 2) scLawTake.nd rfl (.inl rfl) (pe_op op_modN (pe_dget hu (pv 0) pe_str (fun _ _ => rfl)) (pv 1)))
      (pss_cons (ps_dput hu (pv 0) pe_str (pe_op op_fdivN (pe_dget hu (pv 0) pe_str (fun _ _ => rfl)) (pv 1)) rfl)
      (pss_one (ps_ret (pv 2))))), ?_⟩
  obtain ⟨nd1, nd2⟩ := hD.nd
  have hd' : D.d ∈ D.ex := List.mem_cons_self
  have hl' : D.l ∈ D.ex := List.mem_cons_of_mem _ List.mem_cons_self
  refine ⟨fun σ H1 => σ = [some (.ref D.d), some (.int size), none] ∧ Kp D.ex H H1 ∧ DrAt D n H1, ?_, ?_⟩
  · have hD' := id hD
    obtain ⟨ne, large, items, left, turn, h1, h2, h3, ⟨h4, h5, h6⟩, h7, h8⟩ := hD'
    refine ⟨_, rfl, D.d, .int left, rfl, dr_left ▸ DGet.k (k := kLeft) h1, rfl, _, rfl, ite2 (fun c => ?_) (fun c => ?_)⟩
    · -- draw['large'] != []
      refine ⟨_, rfl, D.d, _, rfl, dr_large ▸ DGet.k (k := kLarge) h1, Nat.zero_le _, fun p hp => ?_⟩
      have k1 : Kp [] H (upd H p (.lst [])) := Kp.laid hp
      have e1 : upd H p (.lst []) p = some (.lst []) := upd_same
      have hD1 := hD.keep k1
      generalize upd H p (.lst []) = H1 at k1 e1 hD1 ⊢
      have g1 : Kp D.ex H H1 := k1.mono (by simp)
      refine ⟨_, _, .lst (SqL.of (k1 _ _ (by simp) h2)) (dp_ints large), .lst (SqL.of e1) .nil, ints_shaped large, nil_shaped, _, rfl, ite2 (fun c2 => ?_) (fun c2 => ?_)⟩
      · -- pop(0)
        have hne : large ≠ [] := fun z => by subst z; simp [PyData.eqv, PyData.eqvAll] at c2
        obtain ⟨x, r, rfl⟩ : ∃ x r, large = x :: r := by
          cases large with
          | nil => exact absurd rfl hne
          | cons x r => exact ⟨x, r, rfl⟩
        have h1' := k1 _ _ (by simp) h1
        have h2' := k1 _ _ (by simp) h2
        have h3' := k1 _ _ (by simp) h3
        refine ⟨_, rfl, D.d, _, rfl, dg_large h1', .inl ⟨rfl, _, SqL.of h2'⟩, D.l, _, 0, 0, .int x, rfl, rfl, h2', by decide, by decide, sq_at (Int.le_refl 0) (by simp), rfl, ?_⟩
        have h1'' : upd H1 D.l (.lst (((x :: r).map V.int).eraseIdx 0)) D.d = some (.dK (drV D left turn)) := by rw [upd_ne nd1]; exact h1'
        refine ⟨_, rfl, D.d, _, rfl, DPut.k (k := kLeft) h1'' (by show 4 < sizeLine; decide), ?_⟩
        rw [dr_putLeft]
        refine ⟨rfl, g1.trans ((Kp.put hl').trans (Kp.put hd')), ne, r, items, x, turn, upd_same, ?_, ?_, ⟨h7 x List.mem_cons_self, h5, by omega⟩, fun y hy => h7 y (List.mem_cons_of_mem _ hy), h8⟩
        · rw [upd_ne (Ne.symm nd1), upd_same]
          rfl
        · rw [upd_ne (Ne.symm nd2), upd_ne ne]
          exact h3'
      · -- a mixed number
        refine ⟨_, rfl, D, n, rfl, hD1, fun z H2 hz k2 hD2 => ?_⟩
        have hD2' := id hD2
        obtain ⟨_, large2, items2, left2, turn2, j1, j2, j3, ⟨j4, j5, j6⟩, j7, j8⟩ := hD2'
        refine ⟨_, rfl, D.d, _, rfl, DPut.k (k := kLeft) j1 (by show 4 < sizeLine; decide), ?_⟩
        rw [dr_putLeft]
        refine ⟨rfl, g1.trans ((k2.mono (by simp)).trans (Kp.put hd')), ne, large2, items2, z, turn2, upd_same, by rw [upd_ne (Ne.symm nd1)]; exact j2, by rw [upd_ne (Ne.symm nd2)]; exact j3, ⟨hz, j5, by omega⟩, j7, j8⟩
    · exact ⟨rfl, Kp.refl, hD.less (Nat.le_succ _)⟩
  · rintro σ H1 ⟨rfl, g1, hD1⟩
    have hD' := id hD1
    obtain ⟨ne, large, items, left, turn, h1, h2, h3, ⟨h4, h5, h6⟩, h7, h8⟩ := hD'
    obtain ⟨m1, m2⟩ := fmod_in (i := left) (j := size) z0
    obtain ⟨f1, f2⟩ := fdiv_in (i := left) (j := size) h4 z0
    refine ⟨_, rfl, D.d, _, rfl, dr_left ▸ DGet.k (k := kLeft) h1, _, rfl, left, size, rfl, rfl, (by omega), ?_⟩
    refine ⟨_, rfl, D.d, _, rfl, dr_left ▸ DGet.k (k := kLeft) h1, _, rfl, left, size, rfl, rfl, ⟨(by omega), (by omega)⟩, _, rfl, D.d, _, rfl, DPut.k (k := kLeft) h1 (by show 4 < sizeLine; decide), ?_⟩
    rw [dr_putLeft]
    exact ⟨_, rfl, q _ _ m1 m2 (g1.trans (Kp.put hd')) ⟨ne, large, items, _, turn, upd_same, by rw [upd_ne (Ne.symm nd1)]; exact h2, by rw [upd_ne (Ne.symm nd2)]; exact h3, ⟨f1, h5, h6⟩, h7, h8⟩⟩
end
end NV
/-! D3 -/
set_option Elab.async false
set_option linter.all false
set_option maxRecDepth 100000
set_option maxHeartbeats 400000
namespace NV
open PySem PySem.Spec PyProof.Rows L2
open C8 (pss_cut)
theorem Kp.seqL {K : PySem.W.Frag} {ex : List Addr} {H H' : Hp} {a : Addr} {xs : List V} (e : Kp ex H H') (ha : a ∉ ex) (h : SqL K H a xs) : SqL K H' a xs := by
  rcases h with (h | ⟨o, h⟩) | h
  · exact .inl (.inl (e _ _ ha h))
  · exact .inl (.inr ⟨o, e _ _ ha h⟩)
  · exact .inr h
theorem Kp.seqT {K : PySem.W.Frag} {ex : List Addr} {H H' : Hp} {a : Addr} {xs : List V} (e : Kp ex H H') (ha : a ∉ ex) (h : SqT K H a xs) : SqT K H' a xs := by
  rcases h with (h | ⟨o, h⟩) | h
  · exact .inl (.inl (e _ _ ha h))
  · exact .inl (.inr ⟨o, e _ _ ha h⟩)
  · exact .inr h
abbrev sLawPick : Stmt := topS 58
theorem scLawPick : FnScope ["draw", "some"] ["draw", "some"] (defScope sLawPick) := ⟨rfl, rfl, rfl, by decide +kernel, rfl, by decide +kernel, by decide +kernel⟩
def spPick (K : PySem.W.Frag) : Sp := fun vs H Q _ => ∃ (D : Dr) (n : Nat) (a : Addr) (xs : List V), vs = [.ref D.d, .ref a] ∧ SqL K H a xs ∧ 0 < xs.length ∧ xs.length < 1073741824 ∧ a ∉ D.ex ∧ DrAt D (n + 1) H ∧
  ∀ (i : Nat) (v : V) (H' : Hp), xs[i]? = some v → Kp D.ex H H' → DrAt D n H' → Q v H'
section
variable {P : Program} {w : World} {K : PySem.W.Frag} {mg : Str → Option Value} {base : Heap}
theorem ok_pick (D : Fn K mg "_law_pick" sLawPick ["draw", "some"]) (T : Fn K mg "_law_take" sLawTake ["draw", "size"]) (b_len : mg "len" = none) (G : FnOk P w K mg base CX0 2 T.f T.fd ["draw", "size"] spTake) : FnOk P w K mg base CX0 3 D.f D.fd ["draw", "some"] (spPick K) := by
  refine D.F.ok scLawPick (fun vs H Q E h => ?_) (fun cdv A outer s H vs Q E hr h => ?_)
  · obtain ⟨D, n, a, xs, rfl, _⟩ := h
    rfl
  obtain ⟨D, n, a, xs, rfl, hS, l0, l1, ha, hD, q⟩ := h
  refine ⟨_, pss_one (ps_ret (pe_ix ix_list (pv 1) (pe_fn T G hr (pa_cons (pv 0) (pa_cons (pe_callB call_len_seq (by rfl) b_len (by decide +kernel) (pa_cons (pv 1) pa_nil)) pa_nil))) (fun _ _ => rfl))), ?_⟩
  refine ⟨_, rfl, _, rfl, _, rfl, a, xs, rfl, .inl hS, D, n, _, rfl, (by omega), (by omega), hD, fun i H' h0 h1 k hD' => ?_⟩
  have hlt : i.toNat < xs.length := by omega
  have ei : ((i.toNat : Nat) : Int) = i := by omega
  have g : atI xs ((i.toNat : Nat) : Int) = some xs[i.toNat] := atI_nat (List.getElem?_eq_getElem hlt)
  rw [ei] at g
  exact ⟨a, xs, i, xs[i.toNat], rfl, rfl, k.seqL ha hS, g, q i.toNat _ H' (List.getElem?_eq_getElem hlt) k hD'⟩
end
end NV
/-! Ord -/
set_option linter.all false
/-! texts in order -/
namespace NV
open PySem PySem.Spec PyProof.Rows L2
def ltS (a b : Str) : Prop := a.cps.toList < b.cps.toList
theorem ltS_iff {a b : Str} : ltCps a.cps.toList b.cps.toList = true ↔ ltS a b := by rw [ltCps_eq, decide_eq_true_eq]; exact Iff.rfl
theorem ltS_irrefl (a : Str) : ¬ ltS a a := List.lt_irrefl _
theorem ltS_trans {a b c : Str} (h : ltS a b) (h' : ltS b c) : ltS a c := List.lt_trans h h'
theorem ltS_total {a b : Str} (h : ¬ ltS a b) (h' : ¬ ltS b a) : a = b := ext_toList (List.le_antisymm (List.not_lt.mp h') (List.not_lt.mp h))
instance (a b : Str) : Decidable (ltS a b) := inferInstanceAs (Decidable (a.cps.toList < b.cps.toList))
abbrev Asc (l : List Str) : Prop := l.Pairwise ltS
theorem rising_pw : ∀ (l : List Str) (p : Str), risingS p l = true → (∀ x ∈ l, ¬ ltS x p) ∧ l.Pairwise (fun a b => ¬ ltS b a)
  | [], _, _ => ⟨fun x hx => by simp at hx, .nil⟩
  | y :: r, p, h => by
    have h' : (!ltCps y.cps.toList p.cps.toList && risingS y r) = true := h
    rw [Bool.and_eq_true, Bool.not_eq_true'] at h'
    have h0 : ¬ ltS y p := fun q => by rw [ltS_iff.mpr q] at h'; exact Bool.noConfusion h'.1
    obtain ⟨h1, h2⟩ := rising_pw r y h'.2
    refine ⟨fun x hx => ?_, List.pairwise_cons.mpr ⟨h1, h2⟩⟩
    rcases List.mem_cons.mp hx with e | hx
    · rw [e]; exact h0
    · intro q
      have q1 := h1 x hx
      by_cases q2 : ltS p x
      · exact ltS_irrefl _ (ltS_trans q q2)
      · have : ltS y x ∨ y = x := by
          by_cases z : ltS y x
          · exact .inl z
          · exact .inr (ltS_total z q1)
        rcases this with z | z
        · exact h0 (ltS_trans z q)
        · rw [← z] at q; exact h0 q
theorem sorted_asc {l : List Str} (h : sortedS l = true) (d : l.Nodup) : Asc l := by
  have pw : l.Pairwise (fun a b => ¬ ltS b a) := by
    cases l with
    | nil => exact .nil
    | cons x r =>
      obtain ⟨h1, h2⟩ := rising_pw r x h
      exact List.pairwise_cons.mpr ⟨h1, h2⟩
  exact (pw.and d).imp fun {a b} ⟨h1, h2⟩ => Classical.byContradiction fun h3 => h2 (ltS_total h3 h1)
theorem Asc.nodup {l : List Str} (h : Asc l) : l.Nodup := h.imp fun {a b} q e => by rw [e] at q; exact ltS_irrefl _ q
/-- two rising lists of the same members are one -/
theorem asc_same : ∀ {l m : List Str}, Asc l → Asc m → (∀ x, x ∈ l ↔ x ∈ m) → l = m
  | [], [], _, _, _ => rfl
  | [], y :: r, _, _, h => absurd ((h y).mpr List.mem_cons_self) (by simp)
  | x :: l, [], _, _, h => absurd ((h x).mp List.mem_cons_self) (by simp)
  | x :: l, y :: m, hl, hm, h => by
    obtain ⟨l1, l2⟩ := List.pairwise_cons.mp hl
    obtain ⟨m1, m2⟩ := List.pairwise_cons.mp hm
    have e : x = y := by
      rcases List.mem_cons.mp ((h x).mp List.mem_cons_self) with q | q
      · exact q
      · rcases List.mem_cons.mp ((h y).mpr List.mem_cons_self) with z | z
        · exact z.symm
        · exact absurd (ltS_trans (l1 y z) (m1 x q)) (ltS_irrefl _)
    subst e
    rw [asc_same l2 m2 fun z => ⟨fun q => ?_, fun q => ?_⟩]
    · rcases List.mem_cons.mp ((h z).mp (List.mem_cons_of_mem _ q)) with w | w
      · rw [w] at q; exact absurd (l1 x q) (ltS_irrefl _)
      · exact w
    · rcases List.mem_cons.mp ((h z).mpr (List.mem_cons_of_mem _ q)) with w | w
      · rw [w] at q; exact absurd (m1 x q) (ltS_irrefl _)
      · exact w
end NV
/-! D4 -/
set_option Elab.async false
set_option linter.all false
set_option maxRecDepth 100000
set_option maxHeartbeats 400000
namespace NV
open PySem PySem.Spec PyProof.Rows L2
open C8 (pss_cut)
theorem Kp.drop {p : Addr} {ex : List Addr} {H H' : Hp} (k : Kp (p :: ex) H H') (hp : H p = none) : Kp ex H H' := fun b o hb e => k b o (fun z => by
  rcases List.mem_cons.mp z with z | z
  · rw [z, hp] at e; cases e
  · exact hb z) e
theorem wipe_again {σ : L2.St} {i : Nat} {v : Option V} : wipe ((wipe σ [i]).set i v) [i] = wipe σ [i] := by
  show ((σ.set i none).set i v).set i none = σ.set i none
  rw [List.set_set, List.set_set]
theorem erase_str : ∀ (l : List Str) (j : Nat), (l.map V.str).eraseIdx j = (l.eraseIdx j).map V.str
  | [], _ => rfl
  | _ :: _, 0 => rfl
  | _ :: r, j + 1 => congrArg (_ :: ·) (erase_str r j)
/-- [pool.pop(take(..)) for k in range(cnt)]: some of the pool's texts, each once -/
theorem pops {Dr : Dr} {n : Nat} {te : TE} {i : Nat} {σ : L2.St} {pl C : Addr} {zs : List Str} {cnt : Nat} {H0 : Hp} {Qd : Hp → Prop} (hc : cnt ≤ zs.length) (hz : zs.length < 1000) (hpl : H0 pl = some (.lst (zs.map V.str))) (hnpl : pl ∉ Dr.all) (hD : DrAt Dr (n + cnt) H0) (nC : H0 C = none)
    (hte : ∀ (j : Nat) (H2 : Hp) (rest : List Str) (m : Nat) (Q : V → Hp → Prop), H2 pl = some (.lst (rest.map V.str)) → 0 < rest.length → rest.length < 1000 → DrAt Dr (m + 1) H2 →
      (∀ (j : Nat) (y : Str) (H3 : Hp), rest[j]? = some y → H3 pl = some (.lst ((rest.eraseIdx j).map V.str)) → Kp (pl :: Dr.ex) H2 H3 → DrAt Dr m H3 → Q (.str y) H3) → te ((wipe σ [i]).set i (some (.int (0 + j)))) H2 Q)
    (hd : ∀ (H' : Hp) (got rest : List Str), got.length = cnt → (rest ++ got).Perm zs → H' C = some (.lst (got.map V.str)) → Kp (pl :: Dr.ex) H0 H' → DrAt Dr n H' → Qd H') :
    ∃ W : Nat → Nat → Hp → Prop, (∃ m, W 0 m (upd H0 C (.lst []))) ∧ ∀ j m H, W j m H →
      ((Itr 0 cnt).stop j H ∧ Qd H) ∨ ((Itr 0 cnt).go j H ∧ ∃ Nx : Hp → Prop, (∀ H', Nx H' → ∃ m', m' < m ∧ W (j + 1) m' H') ∧ ∀ x H', (Itr 0 cnt).yld j H x H' → gName i x (wipe σ [i]) H' fun σ2 H2 => wipe σ2 [i] = wipe σ [i] ∧ tYes σ2 H2 fun b H3 =>
        if b = true then te σ2 H3 fun y H4 => ∃ acc, H4 C = some (.lst acc) ∧ acc.length < sizeLine ∧ Nx (upd H4 C (.lst (acc ++ [y]))) else Nx H3) := by
  have nCp : C ≠ pl := fun e => by rw [e, hpl] at nC; cases nC
  have nCa : C ∉ Dr.all := hD.fresh nC
  have nCe : C ∉ Dr.ex := Dr.sub nCa
  refine lc_range (lo := 0) (n := cnt) (fun j H' => ∃ rest got : List Str, H' pl = some (.lst (rest.map V.str)) ∧ H' C = some (.lst (got.map V.str)) ∧ (rest ++ got).Perm zs ∧ got.length = j ∧ rest.length + j = zs.length ∧ Kp (C :: pl :: Dr.ex) H0 H' ∧ DrAt Dr (n + (cnt - j)) H') ?_ (fun j H' hj h => ?_) (fun H' h => ?_)
  · refine ⟨zs, [], by rw [upd_ne nCp.symm]; exact hpl, upd_same, by simp, rfl, rfl, Kp.put List.mem_cons_self, (hD.keep (Kp.laid nC)).less (by omega)⟩
  · obtain ⟨rest, got, h1, h2, h3, h4, h5, h6, h7⟩ := h
    refine ⟨wipe_again, ?_⟩
    change te ((wipe σ [i]).set i (some (.int (0 + (j : Int))))) H' _
    refine hte j H' rest (n + (cnt - (j + 1))) _ h1 (by omega) (by omega) (h7.less (by omega)) fun t y H3 ht e3 k3 d3 => ?_
    have hC3 : H3 C = some (.lst (got.map V.str)) := k3 _ _ (fun z => by
      rcases List.mem_cons.mp z with z | z
      · exact nCp z
      · exact nCe z) h2
    have hsl : got.length < sizeLine := small1000 (by omega)
    have ht' := (List.getElem?_eq_some_iff.mp ht).1
    refine ⟨_, hC3, by rw [List.length_map]; exact hsl, rest.eraseIdx t, got ++ [y], by rw [upd_ne nCp.symm]; exact e3, by rw [upd_same, List.map_append]; rfl, ?_, by rw [List.length_append, h4]; rfl, by rw [List.length_eraseIdx_of_lt ht']; omega, (h6.trans (k3.mono fun b hb => List.mem_cons_of_mem _ hb)).trans (Kp.put List.mem_cons_self), ?_⟩
    · refine List.Perm.trans ?_ h3
      have p1 : (y :: rest.eraseIdx t).Perm rest := erase_perm rest t y ht
      have p2 : (rest.eraseIdx t ++ (got ++ [y])).Perm ((y :: rest.eraseIdx t) ++ got) := by
        rw [← List.append_assoc]
        exact List.perm_append_singleton _ _
      exact p2.trans (p1.append_right got)
    · exact d3.upd nCa
  · obtain ⟨rest, got, h1, h2, h3, h4, h5, h6, h7⟩ := h
    exact hd H' got rest h4 h3 h2 (h6.drop nC) (h7.less (by omega))
end NV
/-! D5 -/
set_option Elab.async false
set_option linter.all false
set_option maxRecDepth 100000
set_option maxHeartbeats 400000
namespace NV
open PySem PySem.Spec PyProof.Rows L2
open C8 (pss_cut)
theorem Kp.none_before {D : Dr} {n : Nat} {H H' : Hp} {p : Addr} (k : Kp D.ex H H') (hp : H' p = none) (d : DrAt D n H') : H p = none := by
  cases e : H p with
  | none => rfl
  | some o =>
    rw [k p o (Dr.sub (d.fresh hp)) e] at hp
    cases hp
/-- the element of such a comprehension, by values -/
theorem pop_turn {Dr : Dr} {m : Nat} {pl : Addr} {rest : List Str} {H2 : Hp} {size : Int} {Q : V → Hp → Prop} (hnpl : pl ∉ Dr.all) (h : H2 pl = some (.lst (rest.map V.str))) (hD : DrAt Dr (m + 1) H2) (hs : 0 < size) (hs1 : size ≤ rest.length) (hs2 : rest.length < 1000)
    (q : ∀ (j : Nat) (y : Str) (H3 : Hp), rest[j]? = some y → H3 pl = some (.lst ((rest.eraseIdx j).map V.str)) → Kp (pl :: Dr.ex) H2 H3 → DrAt Dr m H3 → Q (.str y) H3) :
    spTake [.ref Dr.d, .int size] H2 (fun y H3 => rPopAt (.ref pl) [y] H3 Q) (fun _ _ _ => False) := by
  refine ⟨Dr, m, size, rfl, hs, by omega, hD, fun i H3 h0 h1 k d => ?_⟩
  have hlt : i.toNat < rest.length := by omega
  have h3 := k _ _ (Dr.sub hnpl) h
  have g : (rest.map V.str)[i.toNat]? = some (.str rest[i.toNat]) := by rw [List.getElem?_map, List.getElem?_eq_getElem hlt]; rfl
  refine ⟨pl, _, i, i.toNat, _, rfl, rfl, h3, by omega, by omega, sq_at h0 (by rw [List.length_map]; omega), g, ?_⟩
  rw [erase_str]
  exact q i.toNat _ _ (List.getElem?_eq_getElem hlt) upd_same ((k.mono fun b hb => List.mem_cons_of_mem _ hb).trans (Kp.put List.mem_cons_self)) (d.upd hnpl)

abbrev sLawSome : Stmt := topS 59
theorem scLawSome : FnScope ["draw", "things", "least", "most", "pool", "size", "k"] ["draw", "things", "least", "most"] (defScope sLawSome) := ⟨rfl, rfl, rfl, by decide +kernel, rfl, by decide +kernel, by decide +kernel⟩
def spSome (K : PySem.W.Frag) : Sp := fun vs H Q _ => ∃ (D : Dr) (n : Nat) (a : Addr) (zs : List Str) (least most : Nat), vs = [.ref D.d, .ref a, .int least, .int most] ∧ SqL K H a (zs.map V.str) ∧ a ∉ D.all ∧ zs.length < 64 ∧ least ≤ most ∧ most < 64 ∧ DrAt D (n + (1 + most)) H ∧
  ∀ (ys : List Str) (p : Addr) (H' : Hp), (∀ y ∈ ys, y ∈ zs) → (zs.Nodup → Asc ys) → min least zs.length ≤ ys.length → ys.length ≤ most → H p = none → H' p = some (.tup (ys.map V.str)) → Kp D.ex H H' → DrAt D n H' → Q (.ref p) H'
section
variable {P : Program} {w : World} {K : PySem.W.Frag} {mg : Str → Option Value} {base : Heap}
theorem ok_some (DLawSome : Fn K mg "_law_some" sLawSome ["draw", "things", "least", "most"]) (DLawTake : Fn K mg "_law_take" sLawTake ["draw", "size"]) (b_len : mg "len" = none) (b_list : mg "list" = none) (b_tuple : mg "tuple" = none) (b_sorted : mg "sorted" = none) (b_range : mg "range" = none) (b_min : mg "min" = none)
    (GLawTake : FnOk P w K mg base CX0 2 DLawTake.f DLawTake.fd ["draw", "size"] spTake) : FnOk P w K mg base CX0 3 DLawSome.f DLawSome.fd ["draw", "things", "least", "most"] (spSome K) := by
  refine DLawSome.F.ok scLawSome (fun vs H Q E h => ?_) (fun cdv A outer s H vs Q E hr h => ?_)
  · obtain ⟨D, n, a, zs, least, most, rfl, _⟩ := h
    rfl
  obtain ⟨D, n, a, zs, least, most, rfl, hS, ha, l64, hlm, hm64, hD, q⟩ := h
  refine ⟨_, pss_cons (ps_asg (pe_tup (pa_cons (pe_callTy (listE K) (by rfl) b_list (by decide +kernel) (pa_cons (pv 1) pa_nil)) (pa_cons (pe_op op_add (pv 2) (pe_fn DLawTake GLawTake hr (pa_cons (pv 0) (pa_cons (pe_op op_add (pe_op op_sub (pv 3) (pv 2)) pe_int) pa_nil)))) pa_nil))) (pg_tup (by rfl) (pgs_cons (pg_name (i := 4) scLawSome.nd rfl (.inr rfl)) (pgs_cons (pg_name (i := 5) scLawSome.nd rfl (.inl rfl)) pgs_nil))))
      (pss_one (ps_ret (pe_callTy call_tuple_of (by rfl) b_tuple (by decide +kernel) (pa_cons (pe_callB (sortedE K) (by rfl) b_sorted (by decide +kernel) (pa_cons (pe_lc (own := [("k", 6)]) (g := gName 6) (tt := tYes) (by rfl) scLawSome.nd (pi_range1 rfl b_range (pa_cons (pe_callB (call_min2 rfl) (by rfl) b_min (by decide +kernel) (pa_cons (pv 5) (pa_cons (pe_callB (lenE K) (by rfl) b_len (by decide +kernel) (pa_cons (pv 1) pa_nil)) pa_nil))) pa_nil)) (blkOk_by (N := ["draw", "things", "least", "most", "pool", "size", "k"]) (sc := defScope sLawSome) (by decide +kernel)) (fun _ _ _ _ _ => (pg_name (i := 6) scLawSome.nd rfl (.inl rfl))) (fun _ _ _ _ _ => pts_nil) (fun _ _ _ _ _ => (bmE K PySem.F.plainAttrs_list PySem.F.slot_list_pop PySem.F.type_list_pop mt_popAt (pv 4) (pa_cons (pe_fn DLawTake GLawTake hr (pa_cons (pv 0) (pa_cons (pe_callB (lenE K) (by rfl) b_len (by decide +kernel) (pa_cons (pv 4) pa_nil)) pa_nil))) pa_nil)))) pa_nil)) pa_nil)))), ?_⟩
  -- pool, size
  refine ⟨_, rfl, a, _, rfl, .inl hS, fun pl hpl => ?_⟩
  have hDp := hD.keep (H' := upd H pl (.lst (zs.map V.str))) (Kp.laid hpl)
  have npl := hD.fresh hpl
  have epl : upd H pl (.lst (zs.map V.str)) pl = some (.lst (zs.map V.str)) := upd_same
  have k1 : Kp [] H (upd H pl (.lst (zs.map V.str))) := Kp.laid hpl
  generalize upd H pl (.lst (zs.map V.str)) = H1 at hDp epl k1 ⊢
  refine ⟨_, rfl, _, rfl, _, rfl, _, rfl, _, _, rfl, rfl, _, _, rfl, rfl, D, n + most, _, rfl, (by omega), (by omega), hDp.less (by omega), fun i H2 i0 i1 k2 d2 => ?_⟩
  refine ⟨_, _, rfl, rfl, by show 2 ≤ sizeLine; decide, fun t ht => ?_⟩
  refine ⟨t, [.ref pl, .int (least + i)], rfl, SqT.of upd_same, rfl, _, _, rfl, _, _, rfl, rfl, ?_⟩
  have k3 : Kp [] H2 (upd H2 t (.tup [.ref pl, .int (least + i)])) := Kp.laid ht
  have d3 := d2.keep k3
  generalize upd H2 t (.tup [.ref pl, .int (least + i)]) = H3 at k3 d3 ⊢
  -- the comprehension
  have k13 : Kp D.ex H H3 := (k1.mono (by simp)).trans (k2.trans (k3.mono (by simp)))
  have epl3 := k3 _ _ (by simp) (k2 _ _ (Dr.sub npl) epl)
  have hS3 := k13.seqL (Dr.sub ha) hS
  refine ⟨_, rfl, _, rfl, a, _, rfl, .inl hS3, ?_⟩
  obtain ⟨cnt, ec, hc1, hc2, hc3⟩ : ∃ cnt : Nat, (if (((zs.map V.str).length : Nat) : Int) < (least : Int) + i then (((zs.map V.str).length : Nat) : Int) else (least : Int) + i) = (cnt : Int) ∧ cnt ≤ zs.length ∧ cnt ≤ most ∧ min least zs.length ≤ cnt := by
    rw [List.length_map]
    by_cases c : ((zs.length : Nat) : Int) < (least : Int) + i
    · rw [if_pos c]
      exact ⟨zs.length, rfl, Nat.le_refl _, by omega, by omega⟩
    · rw [if_neg c]
      exact ⟨((least : Int) + i).toNat, by omega, by omega, by omega, by omega⟩
  refine ⟨_, _, rfl, ?_⟩
  rw [ec]
  refine ⟨cnt, rfl, by omega, by omega, fun C nC => ?_⟩
  refine pops (Dr := D) (n := n) (zs := zs) (pl := pl) hc1 (by omega) epl3 npl (d3.less (by omega)) nC (fun j H4 rest m Q4 h1 h2 h3 h4 h5 => ?_) (fun H4 got rest hg hp hC k4 d4 => ?_)
  · refine ⟨_, rfl, .inl ⟨rfl, _, SqL.of h1⟩, _, rfl, _, rfl, pl, _, rfl, .inl (SqL.of h1), ?_⟩
    rw [List.length_map]
    exact pop_turn npl h1 h4 (by omega) (by omega) h3 h5
  · have hg64 : got.length < 64 := by omega
    refine ⟨C, got, rfl, SqL.of hC, hg64, fun ys p2 pm srt np2 => ?_⟩
    refine ⟨p2, ys.map V.str, rfl, .inl ⟨SqL.of upd_same, fun p3 np3 => ?_⟩⟩
    have k5 : Kp [] H4 (upd (upd H4 p2 (.lst (ys.map V.str))) p3 (.tup (ys.map V.str))) := (Kp.laid np2).trans (Kp.laid np3)
    have kk : Kp D.ex H (upd H4 p2 (.lst (ys.map V.str))) := ((k13.mono (fun b hb => List.mem_cons_of_mem _ hb) |>.trans k4).drop hpl).trans (Kp.laid np2)
    refine q ys p3 _ (fun y hy => ?_) (fun nd => ?_) ?_ ?_ (kk.none_before np3 (d4.keep (Kp.laid np2))) upd_same ?_ (d4.keep k5)
    · exact hp.mem_iff.mp (List.mem_append_right _ (pm.mem_iff.mp hy))
    · refine sorted_asc srt (pm.nodup_iff.mpr ?_)
      exact (List.nodup_append.mp (hp.nodup_iff.mpr nd)).2.1
    · rw [pm.length_eq, hg]; exact hc3
    · rw [pm.length_eq, hg]; exact hc2
    · refine Kp.trans ?_ (k5.mono (by simp))
      exact (k13.mono (fun b hb => List.mem_cons_of_mem _ hb) |>.trans k4).drop hpl
end
end NV
/-! D6 -/
set_option Elab.async false
set_option linter.all false
set_option maxRecDepth 100000
set_option maxHeartbeats 400000
namespace NV
open PySem PySem.Spec PyProof.Rows L2
open C8 (pss_cut)
def cellPool : List Str := ["a", "b", "c", "ab", "ba", "aa", "zz", "zzzz", "abcd", "q"]
theorem cellPool_nd : cellPool.Nodup := by decide +kernel
abbrev sLawCells : Stmt := topS 60
theorem scLawCells : FnScope ["draw", "many", "pool", "k"] ["draw", "many"] (defScope sLawCells) := ⟨rfl, rfl, rfl, by decide +kernel, rfl, by decide +kernel, by decide +kernel⟩
def spCells : Sp := fun vs H Q _ => ∃ (D : Dr) (n many : Nat), vs = [.ref D.d, .int many] ∧ many ≤ 10 ∧ DrAt D (n + many) H ∧
  ∀ (ys : List Str) (p : Addr) (H' : Hp), Asc ys → (∀ y ∈ ys, y ∈ cellPool) → ys.length = many → H p = none → H' p = some (.lst (ys.map V.str)) → Kp D.ex H H' → DrAt D n H' → Q (.ref p) H'
section
variable {P : Program} {w : World} {K : PySem.W.Frag} {mg : Str → Option Value} {base : Heap}
theorem ok_cells (DLawCells : Fn K mg "_law_cells" sLawCells ["draw", "many"]) (DLawTake : Fn K mg "_law_take" sLawTake ["draw", "size"]) (b_len : mg "len" = none) (b_sorted : mg "sorted" = none) (b_range : mg "range" = none)
    (GLawTake : FnOk P w K mg base CX0 2 DLawTake.f DLawTake.fd ["draw", "size"] spTake) : FnOk P w K mg base CX0 3 DLawCells.f DLawCells.fd ["draw", "many"] spCells := by
  refine DLawCells.F.ok scLawCells (fun vs H Q E h => ?_) (fun cdv A outer s H vs Q E hr h => ?_)
  · obtain ⟨D, n, many, rfl, _⟩ := h
    rfl
  obtain ⟨D, n, many, rfl, hm, hD, q⟩ := h
  refine ⟨_, pss_cons (ps_set (i := 2) scLawCells.nd rfl (.inr rfl) (pe_lst (pa_cons pe_str (pa_cons pe_str (pa_cons pe_str (pa_cons pe_str (pa_cons pe_str (pa_cons pe_str (pa_cons pe_str (pa_cons pe_str (pa_cons pe_str (pa_cons pe_str pa_nil))))))))))))
      (pss_one (ps_ret (pe_callB (sortedE K) (by rfl) b_sorted (by decide +kernel) (pa_cons (pe_lc (own := [("k", 3)]) (g := gName 3) (tt := tYes) (by rfl) scLawCells.nd (pi_range1 rfl b_range (pa_cons (pv 1) pa_nil)) (blkOk_by (N := ["draw", "many", "pool", "k"]) (sc := defScope sLawCells) (by decide +kernel)) (fun _ _ _ _ _ => (pg_name (i := 3) scLawCells.nd rfl (.inl rfl))) (fun _ _ _ _ _ => pts_nil) (fun _ _ _ _ _ => (bmE K PySem.F.plainAttrs_list PySem.F.slot_list_pop PySem.F.type_list_pop mt_popAt (pv 2) (pa_cons (pe_fn DLawTake GLawTake hr (pa_cons (pv 0) (pa_cons (pe_callB (lenE K) (by rfl) b_len (by decide +kernel) (pa_cons (pv 2) pa_nil)) pa_nil))) pa_nil)))) pa_nil)))), ?_⟩
  refine ⟨by show 10 ≤ sizeLine; decide, fun pl hpl => ?_⟩
  show _
  have hDp := hD.keep (H' := upd H pl (.lst (cellPool.map V.str))) (Kp.laid hpl)
  have npl := hD.fresh hpl
  have epl : upd H pl (.lst (cellPool.map V.str)) pl = some (.lst (cellPool.map V.str)) := upd_same
  have k1 : Kp [] H (upd H pl (.lst (cellPool.map V.str))) := Kp.laid hpl
  have eH : upd H pl (.lst [V.str "a", V.str "b", V.str "c", V.str "ab", V.str "ba", V.str "aa", V.str "zz", V.str "zzzz", V.str "abcd", V.str "q"]) = upd H pl (.lst (cellPool.map V.str)) := rfl
  rw [eH]
  generalize upd H pl (.lst (cellPool.map V.str)) = H1 at hDp epl k1 ⊢
  refine ⟨_, rfl, many, rfl, by omega, by omega, fun C nC => ?_⟩
  have hlen : cellPool.length = 10 := rfl
  refine pops (Dr := D) (n := n) (zs := cellPool) (pl := pl) (by omega) (by omega) epl npl hDp nC (fun j H4 rest m Q4 h1 h2 h3 h4 h5 => ?_) (fun H4 got rest hg hp hC k4 d4 => ?_)
  · refine ⟨_, rfl, .inl ⟨rfl, _, SqL.of h1⟩, _, rfl, _, rfl, pl, _, rfl, .inl (SqL.of h1), ?_⟩
    rw [List.length_map]
    exact pop_turn npl h1 h4 (by omega) (by omega) h3 h5
  · have hg64 : got.length < 64 := by omega
    refine ⟨C, got, rfl, SqL.of hC, hg64, fun ys p2 pm srt np2 => ?_⟩
    have kk : Kp D.ex H (upd H4 p2 (.lst (ys.map V.str))) := ((k1.mono (by simp)).trans k4 |>.drop hpl).trans (Kp.laid np2)
    refine q ys p2 _ ?_ (fun y hy => hp.mem_iff.mp (List.mem_append_right _ (pm.mem_iff.mp hy))) (by rw [pm.length_eq, hg]; rfl) ?_ upd_same kk (d4.keep (Kp.laid np2))
    · exact sorted_asc srt (pm.nodup_iff.mpr (List.nodup_append.mp (hp.nodup_iff.mpr cellPool_nd)).2.1)
    · exact ((k1.mono (by simp)).trans k4 |>.drop hpl).none_before np2 d4
end
end NV
/-! D7 -/
set_option Elab.async false
set_option linter.all false
set_option maxRecDepth 100000
set_option maxHeartbeats 400000
namespace NV
open PySem PySem.Spec PyProof.Rows L2
open C8 (pss_cut)
def isSign (digits : Bool) (c : Nat) : Bool := (97 ≤ c && c ≤ 122) || (digits && (48 ≤ c && c ≤ 57))
/-- a word of 1 to most signs -/
def wordB (most : Nat) (digits : Bool) (z : Str) : Bool := decide (1 ≤ z.cps.size) && decide (z.cps.size ≤ most) && z.cps.toList.all (isSign digits)
abbrev idB (z : Str) : Bool := wordB 6 true z
abbrev cellB (z : Str) : Bool := wordB 4 false z
theorem cellPool_ok : ∀ y ∈ cellPool, cellB y = true := by decide +kernel
def idPool : List Str := ["a", "b", "1", "00", "z9", "zzzzzz", "000000", "a1", "q", "write", "query", "budget", "reads", "end"]
def wIds (n : Nat) : List Str := (List.range n).map fun k : Nat => ("w" : Str) ++ Str.ofString (toString (k : Int))
def xIds (n : Nat) : List Str := (List.range n).map fun k : Nat => ("x" : Str) ++ Str.ofString (toString (k : Int))
theorem pool1_62 : (idPool ++ xIds 62).Nodup := by decide +kernel
theorem pool2_62 : (wIds 62 ++ xIds 62).Nodup := by decide +kernel
theorem ids_62 : (∀ y ∈ idPool ++ xIds 62, idB y = true) ∧ ∀ y ∈ wIds 62, idB y = true := by decide +kernel
theorem len_dec : ∀ j : Nat, j < 62 → (Str.ofString (toString (j : Int))).length ≤ 3 := by decide +kernel
theorem w_len (j : Nat) (h : j < 62) : ("w" : Str).length + (Str.ofString (toString (j : Int))).length ≤ sizeLine := by
  have e : ("w" : Str).length = 1 := rfl
  have := len_dec j h
  rw [e, sizeLine_eq]; omega
theorem x_len (j : Nat) (h : j < 62) : ("x" : Str).length + (Str.ofString (toString (j : Int))).length ≤ sizeLine := by
  have e : ("x" : Str).length = 1 := rfl
  have := len_dec j h
  rw [e, sizeLine_eq]; omega
/-- a comprehension over a range whose element is a function of the turn -/
theorem lc_pure {te : TE} {i : Nat} {σ : L2.St} {C : Addr} {cnt : Nat} {H0 : Hp} {Qd : Hp → Prop} (f : Nat → V) (hn : cnt < 1000)
    (hte : ∀ (j : Nat) (H2 : Hp) (Q : V → Hp → Prop), j < cnt → Q (f j) H2 → te ((wipe σ [i]).set i (some (.int (0 + j)))) H2 Q) (hd : Qd (upd H0 C (.lst ((List.range cnt).map f)))) :
    ∃ W : Nat → Nat → Hp → Prop, (∃ m, W 0 m (upd H0 C (.lst []))) ∧ ∀ j m H, W j m H →
      ((Itr 0 cnt).stop j H ∧ Qd H) ∨ ((Itr 0 cnt).go j H ∧ ∃ Nx : Hp → Prop, (∀ H', Nx H' → ∃ m', m' < m ∧ W (j + 1) m' H') ∧ ∀ x H', (Itr 0 cnt).yld j H x H' → gName i x (wipe σ [i]) H' fun σ2 H2 => wipe σ2 [i] = wipe σ [i] ∧ tYes σ2 H2 fun b H3 =>
        if b = true then te σ2 H3 fun y H4 => ∃ acc, H4 C = some (.lst acc) ∧ acc.length < sizeLine ∧ Nx (upd H4 C (.lst (acc ++ [y]))) else Nx H3) := by
  refine lc_range (lo := 0) (n := cnt) (fun j H' => H' = upd H0 C (.lst ((List.range j).map f))) rfl (fun j H' hj e => ?_) (fun H' e => by rw [e]; exact hd)
  subst e
  refine ⟨wipe_again, ?_⟩
  change te ((wipe σ [i]).set i (some (.int (0 + (j : Int))))) _ _
  refine hte j _ _ hj ⟨_, upd_same, ?_, ?_⟩
  · rw [List.length_map, List.length_range]
    exact small1000 (by omega)
  · rw [upd_upd, List.range_succ, List.map_append]
    rfl
theorem range_take {n m : Nat} (h : n ≤ m) : List.range n = (List.range m).take n := by
  rw [List.take_range, Nat.min_eq_left h]
theorem xIds_take {n m : Nat} (h : n ≤ m) : xIds n = (xIds m).take n := by
  unfold xIds
  rw [range_take h, List.map_take]
theorem wIds_take {n m : Nat} (h : n ≤ m) : wIds n = (wIds m).take n := by
  unfold wIds
  rw [range_take h, List.map_take]
theorem xIds_len (n : Nat) : (xIds n).length = n := by unfold xIds; rw [List.length_map, List.length_range]
theorem wIds_len (n : Nat) : (wIds n).length = n := by unfold wIds; rw [List.length_map, List.length_range]
/-- all ids that may be drawn -/
def idAll : List Str := idPool ++ wIds 62 ++ xIds 62
/-- what the pool of ids may be -/
structure IdZs (zs : List Str) : Prop where
  nd : zs.Nodup
  ok : ∀ y ∈ zs, idB y = true
  far : ∀ y ∈ zs, y ∈ idAll
theorem pool1_ok {n : Nat} (h : n ≤ 62) : IdZs (idPool ++ xIds n) := by
  have e := xIds_take h
  have sub : (idPool ++ xIds n).Sublist (idPool ++ xIds 62) := by
    rw [e]
    exact (List.take_sublist _ _).append_left _
  exact ⟨pool1_62.sublist sub, fun y hy => ids_62.1 y (sub.subset hy), fun y hy => by
    rcases List.mem_append.mp (sub.subset hy) with z | z
    · exact List.mem_append_left _ (List.mem_append_left _ z)
    · exact List.mem_append_right _ z⟩
theorem pool2_ok {n : Nat} (h : n ≤ 62) : IdZs (wIds n ++ xIds n) := by
  have s1 : (wIds n).Sublist (wIds 62) := by rw [wIds_take h]; exact List.take_sublist _ _
  have s2 : (xIds n).Sublist (xIds 62) := by rw [xIds_take h]; exact List.take_sublist _ _
  refine ⟨pool2_62.sublist (s1.append s2), fun y hy => ?_, fun y hy => ?_⟩
  · rcases List.mem_append.mp hy with z | z
    · exact ids_62.2 y (s1.subset z)
    · exact ids_62.1 y (List.mem_append_right _ (s2.subset z))
  · rcases List.mem_append.mp hy with z | z
    · exact List.mem_append_left _ (List.mem_append_right _ (s1.subset z))
    · exact List.mem_append_right _ (s2.subset z)
theorem digits_small {j : Nat} (h : j < 1000) : (j : Int).natAbs.log2 < 1920 := by
  have : (j : Int).natAbs.log2 ≤ (j : Int).natAbs := Nat.log2_le_self _
  omega

end NV
/-! D8 -/
set_option Elab.async false
set_option linter.all false
set_option maxRecDepth 100000
set_option maxHeartbeats 400000
namespace NV
open PySem PySem.Spec PyProof.Rows L2
open C8 (pss_cut)
abbrev sLawIds : Stmt := topS 61
theorem scLawIds : FnScope ["draw", "many", "pool", "k"] ["draw", "many"] (defScope sLawIds) := ⟨rfl, rfl, rfl, by decide +kernel, rfl, by decide +kernel, by decide +kernel⟩
def spIds : Sp := fun vs H Q _ => ∃ (D : Dr) (n many : Nat), vs = [.ref D.d, .int many] ∧ many ≤ 62 ∧ DrAt D (n + (1 + many)) H ∧
  ∀ (ys : List Str) (p : Addr) (H' : Hp), IdZs ys → ys.length = many → H p = none → H' p = some (.lst (ys.map V.str)) → Kp D.ex H H' → DrAt D n H' → Q (.ref p) H'
section
variable {P : Program} {w : World} {K : PySem.W.Frag} {mg : Str → Option Value} {base : Heap}
theorem ok_ids (DLawIds : Fn K mg "_law_ids" sLawIds ["draw", "many"]) (DLawTake : Fn K mg "_law_take" sLawTake ["draw", "size"]) (b_len : mg "len" = none) (b_str : mg "str" = none) (b_range : mg "range" = none) (b_min : mg "min" = none)
    (GLawTake : FnOk P w K mg base CX0 2 DLawTake.f DLawTake.fd ["draw", "size"] spTake) : FnOk P w K mg base CX0 3 DLawIds.f DLawIds.fd ["draw", "many"] spIds := by
  refine DLawIds.F.ok scLawIds (fun vs H Q E h => ?_) (fun cdv A outer s H vs Q E hr h => ?_)
  · obtain ⟨D, n, many, rfl, _⟩ := h
    rfl
  obtain ⟨D, n, many, rfl, hm, hD, q⟩ := h
  refine ⟨_, pss_cons (ps_set (i := 2) scLawIds.nd rfl (.inr rfl) (pe_lst (pa_cons pe_str (pa_cons pe_str (pa_cons pe_str (pa_cons pe_str (pa_cons pe_str (pa_cons pe_str (pa_cons pe_str (pa_cons pe_str (pa_cons pe_str (pa_cons pe_str (pa_cons pe_str (pa_cons pe_str (pa_cons pe_str (pa_cons pe_str pa_nil))))))))))))))))
      (pss_cut (ps_if (pt_cmpR op_eq (pe_fn DLawTake GLawTake hr (pa_cons (pv 0) (pa_cons pe_int pa_nil))) pe_int (nomark _))
      (pss_one (ps_set (i := 2) scLawIds.nd rfl (.inr rfl) (pe_lc (own := [("k", 3)]) (g := gName 3) (tt := tYes) (by rfl) scLawIds.nd (pi_range1 rfl b_range (pa_cons (pv 1) pa_nil)) (blkOk_by (N := ["draw", "many", "pool", "k"]) (sc := defScope sLawIds) (by decide +kernel)) (fun _ _ _ _ _ => (pg_name (i := 3) scLawIds.nd rfl (.inl rfl))) (fun _ _ _ _ _ => pts_nil) (fun _ _ _ _ _ => (pe_op op_add_str pe_str (pe_callTy call_str_int (by rfl) b_str (by decide +kernel) (pa_cons (pv 3) pa_nil)))))))
      pss_nil)
      (pss_cons (ps_set (i := 2) scLawIds.nd rfl (.inr rfl) (pe_op op_cat (pv 2) (pe_lc (own := [("k", 3)]) (g := gName 3) (tt := tYes) (by rfl) scLawIds.nd (pi_range1 rfl b_range (pa_cons (pv 1) pa_nil)) (blkOk_by (N := ["draw", "many", "pool", "k"]) (sc := defScope sLawIds) (by decide +kernel)) (fun _ _ _ _ _ => (pg_name (i := 3) scLawIds.nd rfl (.inl rfl))) (fun _ _ _ _ _ => pts_nil) (fun _ _ _ _ _ => (pe_op op_add_str pe_str (pe_callTy call_str_int (by rfl) b_str (by decide +kernel) (pa_cons (pv 3) pa_nil)))))))
      (pss_one (ps_ret (pe_lc (own := [("k", 3)]) (g := gName 3) (tt := tYes) (by rfl) scLawIds.nd (pi_range1 rfl b_range (pa_cons (pv 1) pa_nil)) (blkOk_by (N := ["draw", "many", "pool", "k"]) (sc := defScope sLawIds) (by decide +kernel)) (fun _ _ _ _ _ => (pg_name (i := 3) scLawIds.nd rfl (.inl rfl))) (fun _ _ _ _ _ => pts_nil) (fun _ _ _ _ _ => (bmE K PySem.F.plainAttrs_list PySem.F.slot_list_pop PySem.F.type_list_pop mt_popAt (pv 2) (pa_cons (pe_fn DLawTake GLawTake hr (pa_cons (pv 0) (pa_cons (pe_callB (call_min2 rfl) (by rfl) b_min (by decide +kernel) (pa_cons pe_int (pa_cons (pe_callB (lenE K) (by rfl) b_len (by decide +kernel) (pa_cons (pv 2) pa_nil)) pa_nil))) pa_nil))) pa_nil)))))))), ?_⟩
  refine ⟨by show 14 ≤ sizeLine; decide, fun pl hpl => ?_⟩
  have hDp := hD.keep (H' := upd H pl (.lst (idPool.map V.str))) (Kp.laid hpl)
  have epl : upd H pl (.lst (idPool.map V.str)) pl = some (.lst (idPool.map V.str)) := upd_same
  have k1 : Kp [] H (upd H pl (.lst (idPool.map V.str))) := Kp.laid hpl
  have npl := hD.fresh hpl
  show _
  refine ⟨fun σ H2 => ∃ (p : Addr) (zs : List Str), σ = [some (.ref D.d), some (.int many), some (.ref p), none] ∧ H2 p = some (.lst (zs.map V.str)) ∧ p ∉ D.all ∧ H p = none ∧ IdZs (zs ++ xIds many) ∧ zs.length ≤ 62 ∧ Kp D.ex H H2 ∧ DrAt D (n + many) H2, ?_, ?_⟩
  · generalize hH1 : upd H pl (.lst (idPool.map V.str)) = H1 at hDp epl k1
    rw [show upd H pl (.lst [V.str "a", V.str "b", V.str "1", V.str "00", V.str "z9", V.str "zzzzzz", V.str "000000", V.str "a1", V.str "q", V.str "write", V.str "query", V.str "budget", V.str "reads", V.str "end"]) = H1 from hH1]
    refine ⟨_, rfl, D, n + many, 2, rfl, by decide, by decide, hDp.less (by omega), fun i H2 i0 i1 k2 d2 => ⟨rfl, _, rfl, ite2 (fun c => ?_) (fun c => ?_)⟩⟩
    · refine ⟨_, rfl, many, rfl, by omega, by omega, fun C nC => ?_⟩
      have nC0 : H C = none := ((k1.mono (by simp)).trans k2).none_before nC d2
      refine lc_pure (cnt := many) (fun j => .str (("w" : Str) ++ Str.ofString (toString (j : Int)))) (by omega) (fun j H3 Q3 hj q3 => ?_) ?_
      · refine ⟨_, rfl, _, rfl, (by rw [Int.zero_add]; exact digits_small (j := j) (by omega)), _, _, rfl, rfl, ?_, ?_⟩
        · rw [Int.zero_add]
          exact w_len j (by omega)
        · have e : (0 : Int) + (j : Int) = (j : Int) := by omega
          rw [e]
          exact q3
      · refine ⟨C, wIds many, rfl, ?_, d2.fresh nC, nC0, pool2_ok hm, by rw [wIds_len]; exact hm, ((k1.mono (by simp)).trans k2).trans (Kp.laid nC), (d2.less (by omega)).keep (Kp.laid nC)⟩
        rw [upd_same]
        unfold wIds
        rw [List.map_map]
        rfl
    · exact ⟨pl, idPool, rfl, k2 _ _ (Dr.sub npl) epl, npl, hpl, pool1_ok hm, by decide, (k1.mono (by simp)).trans k2, d2.less (by omega)⟩
  · rintro σ H2 ⟨p, zs, rfl, ep, np, np0, hz, hz2, k2, d2⟩
    -- pool + ['x' + str(k) ..]
    refine ⟨_, rfl, _, rfl, many, rfl, by omega, by omega, fun C nC => ?_⟩
    refine lc_pure (cnt := many) (fun j => .str (("x" : Str) ++ Str.ofString (toString (j : Int)))) (by omega) (fun j H3 Q3 hj q3 => ?_) ?_
    · refine ⟨_, rfl, _, rfl, (by rw [Int.zero_add]; exact digits_small (j := j) (by omega)), _, _, rfl, rfl, ?_, ?_⟩
      · rw [Int.zero_add]
        exact x_len j (by omega)
      · have e : (0 : Int) + (j : Int) = (j : Int) := by omega
        rw [e]
        exact q3
    · have eC : (List.range many).map (fun j : Nat => V.str (("x" : Str) ++ Str.ofString (toString (j : Int)))) = (xIds many).map V.str := by
        unfold xIds
        rw [List.map_map]
        rfl
      have nCp : p ≠ C := fun z => by rw [z, nC] at ep; cases ep
      have hl : (zs.map V.str).length + ((xIds many).map V.str).length ≤ sizeLine := by
        rw [List.length_map, List.length_map, xIds_len]
        exact Nat.le_of_lt (small1000 (by omega))
      refine ⟨p, C, zs.map V.str, (xIds many).map V.str, rfl, rfl, by rw [upd_ne nCp]; exact ep, by rw [← eC]; exact upd_same, hl, fun p2 np2 => ?_⟩
      have k3 : Kp [] H2 (upd (upd H2 C (.lst ((List.range many).map (fun j : Nat => V.str (("x" : Str) ++ Str.ofString (toString (j : Int))))))) p2 (.lst (zs.map V.str ++ (xIds many).map V.str))) := (Kp.laid nC).trans (Kp.laid np2)
      have e2 : (upd (upd H2 C (.lst ((List.range many).map (fun j : Nat => V.str (("x" : Str) ++ Str.ofString (toString (j : Int))))))) p2 (.lst (zs.map V.str ++ (xIds many).map V.str))) p2 = some (.lst ((zs ++ xIds many).map V.str)) := by rw [upd_same, List.map_append]
      have d3 := d2.keep k3
      have np2a : p2 ∉ D.all := (d2.keep (Kp.laid nC)).fresh np2
      have np20 : H p2 = none := (k2.trans (Kp.laid nC)).none_before np2 (d2.keep (Kp.laid nC))
      generalize upd (upd H2 C (.lst ((List.range many).map (fun j : Nat => V.str (("x" : Str) ++ Str.ofString (toString (j : Int))))))) p2 (.lst (zs.map V.str ++ (xIds many).map V.str)) = H3 at k3 e2 d3 ⊢
      have k03 : Kp D.ex H H3 := k2.trans (k3.mono (by simp))
      refine ⟨_, rfl, many, rfl, by omega, by omega, fun C2 nC2 => ?_⟩
      have zl : (zs ++ xIds many).length = zs.length + many := by rw [List.length_append, xIds_len]
      refine pops (Dr := D) (n := n) (zs := zs ++ xIds many) (pl := p2) (cnt := many) (by omega) (by omega) e2 np2a d3 nC2 (fun j H4 rest m Q4 h1 h2 h3 h4 h5 => ?_) (fun H4 got rest hg hp hC k4 d4 => ?_)
      · refine ⟨_, rfl, .inl ⟨rfl, _, SqL.of h1⟩, _, rfl, _, rfl, p2, _, rfl, .inl (SqL.of h1), _, _, rfl, ?_⟩
        rw [List.length_map]
        refine pop_turn np2a h1 h4 ?_ ?_ h3 h5
        · split <;> omega
        · split <;> omega
      · refine q got C2 H4 ⟨(List.nodup_append.mp (hp.nodup_iff.mpr hz.nd)).2.1, fun y hy => hz.ok y (hp.mem_iff.mp (List.mem_append_right _ hy)), fun y hy => hz.far y (hp.mem_iff.mp (List.mem_append_right _ hy))⟩ hg ?_ hC ((k03.mono fun b hb => List.mem_cons_of_mem _ hb).trans k4 |>.drop np20) d4
        exact k03.none_before nC2 d3
end
end NV
/-! D9 -/
set_option Elab.async false
set_option linter.all false
set_option maxRecDepth 100000
set_option maxHeartbeats 400000
namespace NV
open PySem PySem.Spec PyProof.Rows L2
open C8 (pss_cut)
/-! ### data that stands still -/
mutual
def Rp (ex : List Addr) (H : Hp) : PyData → V → Prop
  | .none, v => v = .non
  | .bool b, v => v = .bl b
  | .int i, v => v = .int i
  | .str z, v => v = .str z
  | .list ds, v => ∃ a xs, v = .ref a ∧ a ∉ ex ∧ H a = some (.lst xs) ∧ RpAll ex H ds xs
  | .tuple ds, v => ∃ a xs, v = .ref a ∧ a ∉ ex ∧ H a = some (.tup xs) ∧ RpAll ex H ds xs
  | .dict kvs, v => kvs = [] ∧ ∃ a, v = .ref a ∧ a ∉ ex ∧ H a = some (.dK [])
def RpAll (ex : List Addr) (H : Hp) : List PyData → List V → Prop
  | [], vs => vs = []
  | d :: ds, vs => ∃ v ws, vs = v :: ws ∧ Rp ex H d v ∧ RpAll ex H ds ws
end
mutual
theorem Rp.keep {ex : List Addr} {H H' : Hp} (k : Kp ex H H') : ∀ (d : PyData) (v : V), Rp ex H d v → Rp ex H' d v
  | .none, _, h => h
  | .bool _, _, h => h
  | .int _, _, h => h
  | .str _, _, h => h
  | .list ds, v, h => by
    obtain ⟨a, xs, e, na, h1, h2⟩ := h
    exact ⟨a, xs, e, na, k a _ na h1, RpAll.keep k ds xs h2⟩
  | .tuple ds, v, h => by
    obtain ⟨a, xs, e, na, h1, h2⟩ := h
    exact ⟨a, xs, e, na, k a _ na h1, RpAll.keep k ds xs h2⟩
  | .dict kvs, v, h => by
    obtain ⟨z, a, e, na, h1⟩ := h
    exact ⟨z, a, e, na, k a _ na h1⟩
theorem RpAll.keep {ex : List Addr} {H H' : Hp} (k : Kp ex H H') : ∀ (ds : List PyData) (vs : List V), RpAll ex H ds vs → RpAll ex H' ds vs
  | [], _, h => h
  | d :: ds, vs, h => by
    obtain ⟨v, ws, e, h1, h2⟩ := h
    exact ⟨v, ws, e, Rp.keep k d v h1, RpAll.keep k ds ws h2⟩
end
mutual
theorem Rp.less {ex ex' : List Addr} {H : Hp} (s : ∀ b ∈ ex', b ∈ ex) : ∀ (d : PyData) (v : V), Rp ex H d v → Rp ex' H d v
  | .none, _, h => h
  | .bool _, _, h => h
  | .int _, _, h => h
  | .str _, _, h => h
  | .list ds, v, h => by
    obtain ⟨a, xs, e, na, h1, h2⟩ := h
    exact ⟨a, xs, e, fun z => na (s a z), h1, RpAll.less s ds xs h2⟩
  | .tuple ds, v, h => by
    obtain ⟨a, xs, e, na, h1, h2⟩ := h
    exact ⟨a, xs, e, fun z => na (s a z), h1, RpAll.less s ds xs h2⟩
  | .dict kvs, v, h => by
    obtain ⟨z, a, e, na, h1⟩ := h
    exact ⟨z, a, e, fun z => na (s a z), h1⟩
theorem RpAll.less {ex ex' : List Addr} {H : Hp} (s : ∀ b ∈ ex', b ∈ ex) : ∀ (ds : List PyData) (vs : List V), RpAll ex H ds vs → RpAll ex' H ds vs
  | [], _, h => h
  | d :: ds, vs, h => by
    obtain ⟨v, ws, e, h1, h2⟩ := h
    exact ⟨v, ws, e, Rp.less s d v h1, RpAll.less s ds ws h2⟩
end
theorem RpAll.strs {ex : List Addr} {H : Hp} : ∀ zs : List Str, RpAll ex H (zs.map PyData.str) (zs.map V.str)
  | [] => rfl
  | z :: r => ⟨_, _, rfl, rfl, RpAll.strs r⟩
theorem RpAll.app {ex : List Addr} {H : Hp} : ∀ {ds es : List PyData} {xs ys : List V}, RpAll ex H ds xs → RpAll ex H es ys → RpAll ex H (ds ++ es) (xs ++ ys)
  | [], _, _, _, h, h' => by
    have e : _ = [] := h
    subst e
    exact h'
  | d :: ds, es, xs, ys, h, h' => by
    obtain ⟨v, ws, e, h1, h2⟩ := h
    subst e
    exact ⟨v, ws ++ ys, rfl, h1, RpAll.app h2 h'⟩
theorem RpAll.one {ex : List Addr} {H : Hp} {d : PyData} {v : V} (h : Rp ex H d v) : RpAll ex H [d] [v] := ⟨v, [], rfl, h, rfl⟩
theorem RpAll.len {ex : List Addr} {H : Hp} : ∀ {ds : List PyData} {xs : List V}, RpAll ex H ds xs → ds.length = xs.length
  | [], _, h => by
    have e : _ = [] := h
    rw [e]; rfl
  | d :: ds, xs, h => by
    obtain ⟨v, ws, e, _, h2⟩ := h
    rw [e, List.length_cons, List.length_cons, RpAll.len h2]
/-- all of ex is held -/
def Live (ex : List Addr) (H : Hp) : Prop := ∀ b ∈ ex, H b ≠ none
theorem Live.fresh {ex : List Addr} {H : Hp} {p : Addr} (l : Live ex H) (hp : H p = none) : p ∉ ex := fun z => l p z hp
theorem Live.keep {ex : List Addr} {D : Dr} {n : Nat} {H H' : Hp} (l : Live ex H) (k : Kp D.ex H H') (d : DrAt D n H') : Live ex H' := fun b hb e => by
  have := k.none_before e d
  exact l b hb this
/-! ### entries -/
inductive Ent where
  | wr (id : Str) (rs ws : List Str) (pr : Option Int)
  | qu (id : Str) (cs : List Str)
def prD : Option Int → PyData
  | none => .none
  | some i => .int i
def Ent.data : Ent → PyData
  | .wr id rs ws pr => .tuple [.str "write", .str id, .tuple (rs.map .str), .tuple (ws.map .str), prD pr]
  | .qu id cs => .tuple [.str "query", .str id, .tuple (cs.map .str)]
def Ent.id : Ent → Str
  | .wr id .. => id
  | .qu id _ => id
structure CellsOk (least : Nat) (cs : List Str) : Prop where
  asc : Asc cs
  ok : ∀ c ∈ cs, cellB c = true
  lo : least ≤ cs.length
  hi : cs.length ≤ 3
def PrOk (pr : Option Int) : Prop := ∀ i, pr = some i → 1 ≤ i ∧ i ≤ 99
def Ent.Ok : Ent → Prop
  | .wr id rs ws pr => idB id = true ∧ CellsOk 0 rs ∧ CellsOk 1 ws ∧ PrOk pr
  | .qu id cs => idB id = true ∧ CellsOk 1 cs
structure LogOk (es : List Ent) : Prop where
  ok : ∀ e ∈ es, e.Ok
  nd : (es.map Ent.id).Nodup
def logD (es : List Ent) : PyData := .tuple (es.map Ent.data)

abbrev sLawPrice : Stmt := topS 62
theorem scLawPrice : FnScope ["draw"] ["draw"] (defScope sLawPrice) := ⟨rfl, rfl, rfl, by decide +kernel, rfl, by decide +kernel, by decide +kernel⟩
def prV : Option Int → V
  | none => .non
  | some i => .int i
theorem prV_rp {ex : List Addr} {H : Hp} : ∀ pr, Rp ex H (prD pr) (prV pr)
  | none => rfl
  | some _ => rfl
def spPrice : Sp := fun vs H Q _ => ∃ (D : Dr) (n : Nat), vs = [.ref D.d] ∧ DrAt D (n + 2) H ∧ ∀ (pr : Option Int) (H' : Hp), PrOk pr → Kp D.ex H H' → DrAt D n H' → Q (prV pr) H'
section
variable {P : Program} {w : World} {K : PySem.W.Frag} {mg : Str → Option Value} {base : Heap}
theorem ok_price (DLawPrice : Fn K mg "_law_price" sLawPrice ["draw"]) (DLawTake : Fn K mg "_law_take" sLawTake ["draw", "size"]) (DLawPick : Fn K mg "_law_pick" sLawPick ["draw", "some"])
    (GLawTake : FnOk P w K mg base CX0 2 DLawTake.f DLawTake.fd ["draw", "size"] spTake) (GLawPick : FnOk P w K mg base CX0 3 DLawPick.f DLawPick.fd ["draw", "some"] (spPick K)) : FnOk P w K mg base CX0 4 DLawPrice.f DLawPrice.fd ["draw"] spPrice := by
  refine DLawPrice.F.ok scLawPrice (fun vs H Q E h => ?_) (fun cdv A outer s H vs Q E hr h => ?_)
  · obtain ⟨D, n, rfl, _⟩ := h
    rfl
  obtain ⟨D, n, rfl, hD, q⟩ := h
  refine ⟨_, pss_one (ps_ret (pe_fn DLawPick GLawPick hr (pa_cons (pv 0) (pa_cons (pe_lst (pa_cons pe_int (pa_cons pe_int (pa_cons pe_int (pa_cons pe_int (pa_cons pe_int (pa_cons pe_int (pa_cons pe_int (pa_cons pe_int (pa_cons (pe_op op_add pe_int (pe_fn DLawTake GLawTake hr (pa_cons (pv 0) (pa_cons pe_int pa_nil)))) (pa_cons pe_non pa_nil))))))))))) pa_nil)))), ?_⟩
  refine ⟨_, rfl, _, rfl, D, n + 1, 99, rfl, by decide, by decide, hD, fun i H1 i0 i1 k1 d1 => ⟨_, _, rfl, rfl, by show 10 ≤ sizeLine; decide, fun p hp => ?_⟩⟩
  refine ⟨D, n, p, _, rfl, SqL.of upd_same, by show 0 < 10; decide, by show 10 < 1073741824; decide, Dr.sub (d1.fresh hp), d1.keep (Kp.laid hp), fun j v H' hj k2 d2 => ?_⟩
  have kk : Kp D.ex H H' := k1.trans ((Kp.laid hp).trans k2)
  obtain ⟨pr, rfl, hpr⟩ : ∃ pr, v = prV pr ∧ PrOk pr := by
    match j, hj with
    | 0, h => exact ⟨some 1, (Option.some.inj h).symm, fun i e => by cases e; decide⟩
    | 1, h => exact ⟨some 1, (Option.some.inj h).symm, fun i e => by cases e; decide⟩
    | 2, h => exact ⟨some 1, (Option.some.inj h).symm, fun i e => by cases e; decide⟩
    | 3, h => exact ⟨some 2, (Option.some.inj h).symm, fun i e => by cases e; decide⟩
    | 4, h => exact ⟨some 2, (Option.some.inj h).symm, fun i e => by cases e; decide⟩
    | 5, h => exact ⟨some 3, (Option.some.inj h).symm, fun i e => by cases e; decide⟩
    | 6, h => exact ⟨some 5, (Option.some.inj h).symm, fun i e => by cases e; decide⟩
    | 7, h => exact ⟨some 99, (Option.some.inj h).symm, fun i e => by cases e; decide⟩
    | 8, h => exact ⟨some (1 + i), (Option.some.inj h).symm, fun i' e => by cases e; omega⟩
    | 9, h => exact ⟨none, (Option.some.inj h).symm, fun i e => by cases e⟩
    | j + 10, h => simp at h
  exact q pr H' hpr kk d2
end
end NV
/-! ReprRp -/
set_option Elab.async false
set_option linter.all false
set_option maxRecDepth 100000
set_option maxHeartbeats 600000
/-! repr of data -/
namespace NV
open PySem PySem.Spec PyProof.Rows L2
section
variable {P : Program} {w : World} {ex : List Addr} {H : Hp} {h : Heap}
theorem no_entries (ok : HOk P w H h) {a : Addr} (e : H a = some (.dK [])) : (a == sysModules) = false ∧ ∃ (o : Obj) (es : Array DictEntry) (ep : Nat), h.get? a = some o ∧ o.cls = .type "dict" ∧ o.data = .dict es ep ∧ es.toList = [] := by
  obtain ⟨_, hs, vs, kv, o, es, ep, ho, hx, hd, _, hp, _⟩ := ok a _ e
  cases kv
  refine ⟨hs, o, es, ep, ho, hx.1, hd, ?_⟩
  cases hp' : es.toList with
  | nil => rfl
  | cons x l =>
    rw [hp'] at hp
    cases hp
mutual
theorem rp_reads (ok : HOk P w H h) : ∀ (d : PyData) (v : V) (u : Value), Rp ex H d v → RelV v u → ∃ as, Reads h u d as
  | .none, _, u, e, r => by
    subst e
    obtain rfl : u = Value.none := r
    exact ⟨_, .none⟩
  | .bool b, _, u, e, r => by
    subst e
    obtain rfl : u = Value.bool b := r
    exact ⟨_, .bool b⟩
  | .int i, _, u, e, r => by
    subst e
    obtain ⟨t, rfl⟩ : ∃ t, u = Value.int i t := r
    exact ⟨_, .int i t⟩
  | .str z, _, u, e, r => by
    subst e
    obtain ⟨t, rfl⟩ : ∃ t, u = Value.str z t := r
    exact ⟨_, .str z t⟩
  | .list ds, _, u, e, r => by
    obtain ⟨a, xs, rfl, _, e1, e2⟩ := e
    obtain rfl : u = Value.ref a := r
    obtain ⟨_, its, n, rv, ho⟩ := ok a _ e1
    obtain ⟨as, ra⟩ := rps_reads ok ds xs its e2 rv
    exact ⟨_, .list ho rfl rfl ra⟩
  | .tuple ds, _, u, e, r => by
    obtain ⟨a, xs, rfl, _, e1, e2⟩ := e
    obtain rfl : u = Value.ref a := r
    obtain ⟨_, its, rv, o, ho, hc, n, hd⟩ := ok a _ e1
    obtain ⟨as, ra⟩ := rps_reads ok ds xs its e2 rv
    exact ⟨_, .tuple ho hc hd ra⟩
  | .dict kvs, _, u, e, r => by
    obtain ⟨rfl, a, rfl, _, e1⟩ := e
    obtain rfl : u = Value.ref a := r
    obtain ⟨_, o, es, ep, ho, hc, hd, hn⟩ := no_entries ok e1
    exact ⟨_, .dict ho hc hd (by rw [hn]; exact .nil) (by rw [hn]; exact .nil)⟩
theorem rps_reads (ok : HOk P w H h) : ∀ (ds : List PyData) (vs : List V) (us : List Value), RpAll ex H ds vs → Vals vs us → ∃ as, ReadsAll h us ds as
  | [], _, us, e, r => by
    subst e
    cases r
    exact ⟨_, .nil⟩
  | d :: ds, _, us, e, r => by
    obtain ⟨v, ws, rfl, e1, e2⟩ := e
    cases r with
    | cons r1 r2 =>
      obtain ⟨as, ra⟩ := rp_reads ok d v _ e1 r1
      obtain ⟨bs, rb⟩ := rps_reads ok ds ws _ e2 r2
      exact ⟨_, .cons ra rb⟩
end
mutual
theorem rp_shows (ok : HOk P w H h) : ∀ (d : PyData) (v : V) (u : Value), Rp ex H d v → RelV v u → d.showable = true → d.shown.length ≤ sizeLine → ∃ bs, ReadAtMost h d.depth bs ∧ ReprK P w bs h d.depth u d.shown
  | .none, _, u, e, r, _, _ => by
    subst e
    obtain rfl : u = Value.none := r
    exact ⟨[], (fun _ h => nomatch h), by simp only [PyData.shown]; exact .of_is ReprIs.none _ _ _⟩
  | .bool b, _, u, e, r, _, _ => by
    subst e
    obtain rfl : u = Value.bool b := r
    exact ⟨[], (fun _ h => nomatch h), by simp only [PyData.shown]; exact .of_is (ReprIs.bool b) _ _ _⟩
  | .int i, _, u, e, r, hs, _ => by
    subst e
    obtain ⟨t, rfl⟩ : ∃ t, u = Value.int i t := r
    exact ⟨[], (fun _ h => nomatch h), by simp only [PyData.shown]; exact .of_is (ReprIs.int t (by simpa [PyData.showable] using hs)) _ _ _⟩
  | .str z, _, u, e, r, _, hz => by
    subst e
    obtain ⟨t, rfl⟩ : ∃ t, u = Value.str z t := r
    exact ⟨[], (fun _ h => nomatch h), by simp only [PyData.shown]; exact .of_is (ReprIs.str z t (by simpa only [PyData.shown] using hz)) _ _ _⟩
  | .list ds, v, u, e, r, hs, hz => by
    obtain ⟨as0, r0⟩ := rp_reads ok (.list ds) v u e r
    obtain ⟨a, xs, rfl, _, e1, e2⟩ := e
    obtain rfl : u = Value.ref a := r
    obtain ⟨_, its, n, rv, ho⟩ := ok a _ e1
    have hz' : (listText (PyData.shownAll ds)).length ≤ sizeLine := by simpa only [PyData.shown] using hz
    obtain ⟨bs, hb, hk⟩ := rps_show ok ds xs its e2 rv (by simpa [PyData.showable] using hs) fun t ht => Nat.le_trans (listText_mem_le ht) hz'
    have hna : a ∉ bs := not_mem_of_deeper r0 (by simp only [PyData.depth]; omega) hb
    refine ⟨a :: bs, ReadAtMost.cons r0 (by simp only [PyData.depth]; omega) hb, ?_⟩
    simp only [PyData.depth, PyData.shown]
    cases its with
    | nil =>
      have hl : PyData.shownAll ds = [] := by
        have := hk.length_eq
        exact List.eq_nil_of_length_eq_zero this
      rw [hl, listText_nil]
      exact ReprK.listEmpty ho rfl rfl
    | cons x l => exact ReprK.list ho rfl rfl hna (by simpa using hk.length_eq) (fun i y e => hk.item i y (by simpa using e))
  | .tuple ds, v, u, e, r, hs, hz => by
    obtain ⟨as0, r0⟩ := rp_reads ok (.tuple ds) v u e r
    obtain ⟨a, xs, rfl, _, e1, e2⟩ := e
    obtain rfl : u = Value.ref a := r
    obtain ⟨_, its, rv, o, ho, hc, n, hd⟩ := ok a _ e1
    have hz' : (tupleText (PyData.shownAll ds)).length ≤ sizeLine := by simpa only [PyData.shown] using hz
    obtain ⟨bs, hb, hk⟩ := rps_show ok ds xs its e2 rv (by simpa [PyData.showable] using hs) fun t ht => Nat.le_trans (tupleText_mem_le ht) hz'
    have hna : a ∉ bs := not_mem_of_deeper r0 (by simp only [PyData.depth]; omega) hb
    refine ⟨a :: bs, ReadAtMost.cons r0 (by simp only [PyData.depth]; omega) hb, ?_⟩
    simp only [PyData.depth, PyData.shown]
    exact ReprK.tuple ho hc hd hna hk
  | .dict kvs, v, u, e, r, hs, hz => by
    obtain ⟨as0, r0⟩ := rp_reads ok (.dict kvs) v u e r
    obtain ⟨rfl, a, rfl, _, e1⟩ := e
    obtain rfl : u = Value.ref a := r
    obtain ⟨hsys, o, es, ep, ho, hc, hd, hn⟩ := no_entries ok e1
    refine ⟨[a], ReadAtMost.cons r0 (Nat.zero_le _) (n := 0) (fun _ h => nomatch h), ?_⟩
    exact ReprK.dict ho hc hd hsys (as := []) (by simp) (by rw [hn]; exact .nil)
theorem rps_show (ok : HOk P w H h) : ∀ (ds : List PyData) (vs : List V) (us : List Value), RpAll ex H ds vs → Vals vs us → PyData.showableAll ds = true → (∀ t ∈ PyData.shownAll ds, t.length ≤ sizeLine) →
    ∃ bs, ReadAtMost h (PyData.depthAll ds) bs ∧ ReprAllK P w bs h (PyData.depthAll ds) us (PyData.shownAll ds)
  | [], _, us, e, r, _, _ => by
    subst e
    cases r
    exact ⟨[], (fun _ h => nomatch h), by simp only [PyData.shownAll]; exact .nil⟩
  | d :: ds, _, us, e, r, hs, hz => by
    obtain ⟨v, ws, rfl, e1, e2⟩ := e
    cases r with
    | cons r1 r2 =>
      have hs' : d.showable = true ∧ PyData.showableAll ds = true := by simpa [PyData.showableAll] using hs
      obtain ⟨b1, hb1, k1⟩ := rp_shows ok d v _ e1 r1 hs'.1 (hz _ (by simp only [PyData.shownAll]; exact List.mem_cons_self ..))
      obtain ⟨b2, hb2, k2⟩ := rps_show ok ds ws _ e2 r2 hs'.2 (fun t ht => hz t (by simp only [PyData.shownAll]; exact List.mem_cons_of_mem _ ht))
      refine ⟨b1 ++ b2, ?_, ?_⟩
      · intro b hm
        simp only [PyData.depthAll]
        rcases List.mem_append.mp hm with hm | hm
        · obtain ⟨d', as', r', hd'⟩ := hb1 b hm
          exact ⟨d', as', r', Nat.le_trans hd' (Nat.le_max_left _ _)⟩
        · obtain ⟨d', as', r', hd'⟩ := hb2 b hm
          exact ⟨d', as', r', Nat.le_trans hd' (Nat.le_max_right _ _)⟩
      · simp only [PyData.depthAll, PyData.shownAll]
        exact .cons ((k1.more fun b hb => List.mem_append_left _ hb).level_le (Nat.le_max_left _ _)) (k2.more_le (fun b hb => List.mem_append_right _ hb) (Nat.le_max_right _ _))
end
end
section
variable {X : Cx}
def rRepr : List V → Hp → VK → Prop := fun xs H Q => ∃ (v : V) (d : PyData), xs = [v] ∧ Rp [] H d v ∧ d.showable = true ∧ d.depth ≤ 64 ∧ d.shown.length ≤ sizeLine ∧ Q (.str d.shown) H
theorem cr_repr (hg : X.A.guards = some []) (hu : X.A.units + 80 < cLine) : CallR X (.builtin "repr") rRepr := by
  intro pins s σ H xs us Q I r h
  obtain ⟨v, d, rfl, e, hs, h64, hz, q⟩ := h
  obtain ⟨u, rfl, rv⟩ := vals1 r
  have fin : ∀ {h' : Heap} {u tk}, (∀ b o, s.heap.get? b = some o → h'.get? b = some o) → EP X pins σ Q (.str d.shown u) { s with heap := h', toks := tk } := fun k => ⟨.str d.shown, H, I.kept k, ⟨_, rfl⟩, q⟩
  have hA : X.A.in1.units + d.depth < cLine := by show X.A.units + 1 + d.depth < cLine; omega
  cases d with
  | none =>
    obtain rfl : v = .non := e
    obtain rfl : u = Value.none := rv
    refine PySem.P.repr_of_none ?_
    have := fin (h' := s.heap) (u := s.toks) (tk := s.toks + 1) (fun _ _ e => e)
    simp only [PyData.shown] at this
    exact this
  | bool b =>
    obtain rfl : v = .bl b := e
    obtain rfl : u = Value.bool b := rv
    refine PySem.P.repr_of_bool ?_
    have := fin (h' := s.heap) (u := s.toks) (tk := s.toks + 1) (fun _ _ e => e)
    simp only [PyData.shown] at this
    exact this
  | int i =>
    obtain rfl : v = .int i := e
    obtain ⟨t, rfl⟩ : ∃ t, u = Value.int i t := rv
    refine PySem.P.repr_of_int (by simpa [PyData.showable] using hs) ?_
    have := fin (h' := s.heap) (u := s.toks) (tk := s.toks + 1) (fun _ _ e => e)
    simp only [PyData.shown] at this
    exact this
  | str z =>
    obtain rfl : v = .str z := e
    obtain ⟨t, rfl⟩ : ∃ t, u = Value.str z t := rv
    refine PySem.P.repr_of_str ?_ (by simpa only [PyData.shown] using hz)
    have := fin (h' := s.heap) (u := s.toks) (tk := s.toks + 1) (fun _ _ e => e)
    simp only [PyData.shown] at this
    exact this
  | list ds =>
    obtain ⟨as0, r0⟩ := rp_reads I.hok (.list ds) v u e rv
    obtain ⟨a, xs, rfl, _, e1, e2⟩ := e
    obtain rfl : u = Value.ref a := rv
    obtain ⟨_, its, n, rv', ho⟩ := I.hok a _ e1
    have hz' : (listText (PyData.shownAll ds)).length ≤ sizeLine := by simpa only [PyData.shown] using hz
    obtain ⟨bs, hb, hk⟩ := rps_show I.hok ds xs its e2 rv' (by simpa [PyData.showable] using hs) fun t ht => Nat.le_trans (listText_mem_le ht) hz'
    have hna : a ∉ bs := not_mem_of_deeper r0 (by simp only [PyData.depth]; omega) hb
    simp only [PyData.depth] at hA
    simp only [PyData.shown] at fin
    refine call_repr_slot (by omega) ⟨_, ho, rfl⟩ F.slot_list_repr.toG ?_
    cases its with
    | nil =>
      have hl : PyData.shownAll ds = [] := List.eq_nil_of_length_eq_zero hk.length_eq
      rw [hl, listText_nil] at fin
      exact call_list_repr_empty ⟨_, ho, rfl⟩ ho rfl ⟨_, _, rfl, fin fun _ _ e => e⟩
    | cons x l =>
      exact call_list_reprK ho rfl rfl hna (by simpa using hk.length_eq) (fun i y e => hk.item i y (by simpa using e)) hg (fun b _ => Clear.nil b) hA (fun _ _ e => e) (fun h' u tk k => ⟨_, _, rfl, fin k⟩) hz'
  | tuple ds =>
    obtain ⟨as0, r0⟩ := rp_reads I.hok (.tuple ds) v u e rv
    obtain ⟨a, xs, rfl, _, e1, e2⟩ := e
    obtain rfl : u = Value.ref a := rv
    obtain ⟨_, its, rv', o, ho, hc, n, hd⟩ := I.hok a _ e1
    have hz' : (tupleText (PyData.shownAll ds)).length ≤ sizeLine := by simpa only [PyData.shown] using hz
    obtain ⟨bs, hb, hk⟩ := rps_show I.hok ds xs its e2 rv' (by simpa [PyData.showable] using hs) fun t ht => Nat.le_trans (tupleText_mem_le ht) hz'
    have hna : a ∉ bs := not_mem_of_deeper r0 (by simp only [PyData.depth]; omega) hb
    simp only [PyData.depth] at hA
    simp only [PyData.shown] at fin
    refine call_repr_slot (by omega) ⟨_, ho, hc⟩ F.slot_tuple_repr ?_
    exact call_tuple_reprK ho hc hd hna hk hg (fun b _ => Clear.nil b) hA (fun _ _ e => e) (fun h' u tk k => ⟨_, _, rfl, fin k⟩) hz'
  | dict kvs =>
    obtain ⟨rfl, a, rfl, _, e1⟩ := e
    obtain rfl : u = Value.ref a := rv
    obtain ⟨hsys, o, es, ep, ho, hc, hd, hn⟩ := no_entries I.hok e1
    simp only [PyData.depth, PyData.depthKv] at hA
    simp only [PyData.shown, PyData.shownKv] at fin hz
    refine call_repr_slot (by omega) ⟨_, ho, hc⟩ F.slot_dict_repr ?_
    exact call_dict_reprK ho hc hd hsys (as := []) (by simp) (by rw [hn]; exact .nil) hg (fun b _ => Clear.nil b) hA (fun _ _ e => e) (fun h' u tk k => ⟨_, _, rfl, fin k⟩) hz
end
end NV
/-! FnG -/
set_option Elab.async false
set_option linter.all false
set_option maxRecDepth 100000
set_option maxHeartbeats 600000
/-! defs that run where no repr is under way -/
namespace NV
open PySem PySem.Spec PyProof.Rows L2
structure FnOkG (P : Program) (w : World) (K : PySem.W.Frag) (mg : Str → Option Value) (base : Heap) (CX : CXT) (k : Nat) (f : Addr) (fd : FuncData) (ps : List Str) (sp : Sp) : Prop where
  len : ∀ vs H Q E, sp vs H Q E → vs.length = ps.length
  run : ∀ {A : Around} {outer : List Env} {s : Shared} {H : Hp} {args : Args} {us : List Value} {vs : List V} {Q : VK} {E : XK}, A.guards = some [] → Room k A → Env0 P w K mg base A outer s H → BindsTo s fd args (ps.zip us) → Vals vs us → sp vs H Q E →
    codeAny (model P w) A (.call (.ref f) args) (CR CX outer P w H s Q E) s
theorem FnOkG.of {P : Program} {w : World} {K : PySem.W.Frag} {mg : Str → Option Value} {base : Heap} {CX : CXT} {k : Nat} {f : Addr} {fd : FuncData} {ps : List Str} {sp : Sp} (F : FnOk P w K mg base CX k f fd ps sp) : FnOkG P w K mg base CX k f fd ps sp :=
  ⟨F.len, fun _ hr e b v q => F.run _ _ _ _ _ _ _ _ _ hr e b v q⟩
section
variable {P : Program} {w : World} {K : PySem.W.Frag} {mg : Str → Option Value} {base : Heap}
/-- a def by its body; the body knows that no repr is under way -/
theorem okG {x qual : Str} {st : Stmt} {f : Addr} {fd : FuncData} {N ps : List Str} {k : Nat} {sp : Sp} (F : Fun K x qual st f fd) (S : FnScope N ps (defScope st)) (len : ∀ vs H Q E, sp vs H Q E → vs.length = ps.length)
    (body : ∀ (cdv : Value) (A : Around) (outer : List Env) (s : Shared) (H : Hp) (vs : List V) (Q : VK) (E : XK), (A.deeper (envOfC qual (defScope st) s.heap.objs.size f cdv)).guards = some [] → Room k (A.deeper (envOfC qual (defScope st) s.heap.objs.size f cdv)) → sp vs H Q E →
      ∃ t, PSs (cxOf CX0 P w K mg base N qual (defScope st) f cdv A outer s H E).nox (defBody st) t ∧ t { nx := fun _ H' => Q .non H', rt := Q } (start N vs) H) : FnOkG P w K mg base CX0 (k + 1) f fd ps sp := by
  obtain ⟨oc, od, kV, doc, pm, an, cdv, ct, osl, rfl, lk, hcd⟩ := F.ex
  refine ⟨len, fun {A outer s H args us vs Q E} hg hr e0 hb rel hsp => ?_⟩
  have hl := len _ _ _ _ hsp
  have KX : K.In s.heap := e0.mod.kin.keeps fun b o e => (e0.bs b o e).1
  have lim : s.heap.NoLimit := e0.mod.nolimit.keeps fun b o e => (e0.bs b o e).1
  have named : ∀ y ∈ ps.zip us, (defScope st).names.lookup y.1 = some .local ∨ ((defScope st).names.lookup y.1 = some .cell ∧ ((cellsFrom (s.heap.objs.size + 1) (defScope st).names []).lookup y.1).isSome = true) := fun ⟨n, v⟩ hy =>
    (S.par n (List.of_mem_zip hy).1).elim .inl fun q => .inr ⟨q, PySem.W.cellsFrom_some _ _ _ (.inl q)⟩
  refine codeAny_call_function hr.depth (KX _ _ lk) rfl S.co S.gen rfl (PySem.W.codeRec_of KX hcd) (hb _ _ _ _ (wpAny_newFunctionEnv_cells S.kind named fun env he s1 x => ?_))
  subst he
  obtain ⟨t, ht, hq⟩ := body cdv A outer s H vs Q E hg (hr.deeper _) hsp
  refine ⟨lim.keeps x.toInCall.keep, codeAny_func (wpAny_mono (ht.nox.run [] s1 (start N vs) H _ (inv_start S hr.hd e0 hl rel x) hq) (fun fl s' hs => ?_) fun e s' hs => hs)⟩
  match fl, hs with
  | .ret u, ⟨v, σ', H', J, rv, q⟩ => exact ⟨v, H', J.os, J.bare, J.base, J.hok, rv, q⟩
  | .next, ⟨σ', H', J, q⟩ => exact ⟨.non, H', J.os, J.bare, J.base, J.hok, rfl, q⟩
  | .brk, ⟨_, _, _, q⟩ => exact q.elim
  | .cont, ⟨_, _, _, q⟩ => exact q.elim
end
section
variable {X : Cx} {CX : CXT} {k : Nat} {f : Addr} {fd : FuncData} {ps : List Str} {sp : Sp} {x : Str} {p pos : Pos} {e : Expr} {es : List Expr} {t : TA}
theorem pe_gcall {nm : Str} {st : Stmt} (D : Fn X.K X.mg nm st ps) {j : Nat} (G : FnOkG X.prog X.w X.K X.mg X.base CX0 j D.f D.fd ps sp) (hg0 : X.A.guards = some []) (hr : Room k X.A) (ha : PA X (e :: es) t)
    (hk : j ≤ k := by decide) (hg : Gl X nm := by rfl) (hdb : (nm == ("__debug__" : Str)) = false := by decide) (he : starEach (e :: es) X.env = (false, eval e X.env) :: starEach es X.env := by rfl) (hpl : (backTo pos (starEach es X.env)).any (·.1) = false := by rfl) :
    PE X (.Call (.Name nm p) (e :: es) [] pos) (tCall sp [] (fun _ _ _ => False) t) := by
  refine ⟨fun pins s σ H Q I h => wpAny_Call_Name_kw (ld_glob I hg D.m ?_ hdb)⟩
  refine PySem.W.callWith_K (h₀ := X.base) I.ok.mod.kin D.F.kp (thn (ha.run pos pins s σ H _ I h) fun us s1 ⟨vs, H1, I1, rel, q⟩ => ⟨I1.kIn, ?_⟩) he hpl
  have r2 : Vals (vs ++ []) (us ++ []) := rel.append .nil
  have hl : (us ++ []).length = ps.length := by rw [← r2.length]; exact G.len _ _ _ _ q
  refine wpAny_call (codeAny_mono (G.run hg0 (hr.mono hk) I1.env0 (D.b s1 us I1.kIn hl) r2 q) fun r s' hq => ?_)
  match r, hq with
  | .error e, hq => exact hq.elim
  | .ok (.ret u), hq => exact I1.after hq
  | .ok .next, hq => exact hq.elim
  | .ok .brk, hq => exact hq.elim
  | .ok .cont, hq => exact hq.elim
end
end NV
/-! EndG -/
set_option Elab.async false
set_option linter.all false
set_option maxRecDepth 100000
set_option maxHeartbeats 1000000
/-! the end of a law whose defs ask that no repr be under way -/
namespace NV
open PySem PySem.Spec PyProof.Rows L2
open Classical in
/-- what is tracked at the law's entry: the tables T, and the script where it is no written object -/
noncomputable def entryHp (T : List Addr) (a : Addr) (free : Prop) (u : HO) : Hp := fun b => if b ∈ T then some (.tbl #[]) else if b = a ∧ free then some u else none
section
variable {P : Program} {w : World} {K : PySem.W.Frag} {mg mb : Str → Option Value}
theorem law_callG {CX : CXT} {k : Nat} {fa a : Addr} {cs : List (Addr × Addr)} {fd : FuncData} {x : Str} {sp : Sp} {s : Shared} {vs : List Value} {ns : List Int}
    (KX : K.In s.heap) (glob : s.heap.Ns mainGlobals mg) (blt : s.heap.Ns builtinsNs mb) (boot : ∀ x : Str, x ≠ "__name__" → mb x = bootBuiltins x) (lim : s.heap.NoLimit) (gens : s.gens = #[])
    (tab : ∀ p ∈ cs, s.heap.get? p.2 = some { cls := .none, data := .fields #[] }) (unwr : ∀ p ∈ cs, K.lookup p.2 = none) (code : ∀ p ∈ cs, PySem.W.CodeHd s.heap p.1 p.2)
    (bmod : ∃ (bm : Addr) (ob : Obj), mg "__builtins__" = some (.ref bm) ∧ bm ≠ builtinsNs ∧ s.heap.get? bm = some ob ∧ ob.cls = .type "module" ∧ ob.dict = some builtinsNs ∧ ob.data = .plain)
    (obj : s.heap.get? a = some { cls := .type "list", data := .seq vs.toArray }) (nums : IntsAre vs ns) (few : ns.length ≤ sizeLine) (room : Room k callerA)
    (F : ∀ base : Heap, K.In base → base.Ns mainGlobals mg → (∀ p ∈ cs, LamX.TabB base mg p.1 p.2) → FnOkG P w K mg base CX k fa fd [x] sp) (binds : ∀ (s : Shared) (u : Value), BindsTo s fd ⟨[u], []⟩ [(x, u)])
    (promise : ∀ H : Hp, (∀ p ∈ cs, H p.2 = some (.tbl #[])) → SqL K H a (ns.map V.int) → sp [.ref a] H (fun v _ => v = .bl true) fun _ _ _ => False)
    (noX : ∀ H e s', CX [] H s (fun _ _ _ => False) e s' → False) :
    codeAny (model P w) callerA (.call (.ref fa) ⟨[.ref a], []⟩) (fun r s' => r = .ok (.ret (.bool true)) ∧ OldK s.heap s'.heap ∧ s'.os = s.os ∧ AllBare s'.gens) s := by
  have rv := vals_ints nums
  have lenV := nums.length
  generalize hT : cs.map (·.2) = T
  have inT : ∀ p ∈ cs, p.2 ∈ T := fun p hp => by rw [← hT]; exact List.mem_map.mpr ⟨p, hp, rfl⟩
  have tabT : ∀ b ∈ T, s.heap.get? b = some { cls := .none, data := .fields #[] } ∧ K.lookup b = none := fun b hb => by
    rw [← hT] at hb
    obtain ⟨p, hp, rfl⟩ := List.mem_map.mp hb
    exact ⟨tab p hp, unwr p hp⟩
  have aT : a ∉ T := fun z => by
    have q := (tabT a z).1
    rw [obj] at q
    cases q
  generalize hu : HO.frz { cls := .type "list", data := .seq vs.toArray } (.lst (ns.map V.int)) = u
  generalize hH : entryHp T a (K.lookup a = none) u = H
  have at_T : ∀ b ∈ T, H b = some (.tbl #[]) := fun b hb => by rw [← hH]; exact if_pos hb
  have on_a : ∀ b, b ∉ T → b = a ∧ K.lookup a = none → H b = some u := fun b hb c => by
    rw [← hH]
    exact (if_neg hb).trans (if_pos c)
  have off_a : ∀ b, b ∉ T → ¬ (b = a ∧ K.lookup a = none) → H b = none := fun b hb c => by
    rw [← hH]
    exact (if_neg hb).trans (if_neg c)
  -- nothing tracked is a dict, a module, a code object
  have clear : ∀ {b : Addr} {o : Obj}, s.heap.get? b = some o → (∀ vs n, o.data ≠ .seq vs n) → o.data ≠ .fields #[] → H b = none := fun {b o} e h1 h2 => by
    by_cases hb : b ∈ T
    · have q := (tabT b hb).1
      rw [e] at q
      cases q
      exact (h2 rfl).elim
    · refine off_a b hb ?_
      rintro ⟨rfl, _⟩
      rw [obj] at e
      cases e
      exact h1 _ _ rfl
  have keepB : ∀ {b : Addr} {o : Obj}, s.heap.get? b = some o → (∀ vs n, o.data ≠ .seq vs n) → o.data ≠ .fields #[] → (hidT s.heap H).get? b = some o := fun e h1 h2 => hidT_get e (clear e h1 h2)
  have keepN : ∀ {b : Addr} {m : Str → Option Value}, s.heap.Ns b m → (hidT s.heap H).Ns b m := fun {b m} ⟨o, es, ep, e, d, r⟩ => ⟨o, es, ep, keepB e (by rw [d]; exact fun _ _ z => nomatch z) (by rw [d]; exact fun z => nomatch z), d, r⟩
  have KB : K.In (hidT s.heap H) := fun b o e => hidT_get (KX b o e) (by
    have hb : b ∉ T := fun z => by rw [(tabT b z).2] at e; cases e
    refine off_a b hb ?_
    rintro ⟨rfl, z⟩
    rw [z] at e
    cases e)
  have hok : HOk P w H s.heap := fun b o z => by
    by_cases hb : b ∈ T
    · rw [at_T b hb] at z
      cases z
      exact (tabT b hb).1
    · by_cases c : b = a ∧ K.lookup a = none
      · rw [on_a b hb c, ← hu] at z
        cases z
        rw [c.1]
        exact ⟨obj, by rw [List.length_map]; exact few, vs, _, rv, obj⟩
      · rw [off_a b hb c] at z
        cases z
  have seq : SqL K H a (ns.map V.int) := by
    cases hk : K.lookup a with
    | none => exact .inl (.inr ⟨_, by rw [on_a a aT ⟨rfl, hk⟩, ← hu]⟩)
    | some o =>
      have e := KX a o hk
      rw [obj] at e
      cases e
      exact .inr ⟨_, vs.toArray, _, hk, rfl, rfl, rfl, by rw [List.size_toArray, lenV]; exact few, by simpa using rv⟩
  have TB : ∀ p ∈ cs, LamX.TabB (hidT s.heap H) mg p.1 p.2 := fun p hp => by
    refine ⟨?_, ?_, fun z => ?_⟩
    · obtain ⟨o, us, file, tf, flags, tg, inF, text, tt, e1, r1, r2, r3, r4, r5, r6, r7, r8, r9⟩ := code p hp
      refine ⟨o, us, file, tf, flags, tg, inF, text, tt, keepB e1 (by rw [r2]; exact fun _ _ z => nomatch z) (fun z => ?_), r1, r2, r3, r4, r5, r6, r7, r8, r9⟩
      rw [r2] at z
      cases z
      simp at r3
    · obtain ⟨bm, ob, b1, b2, b3, b4, b5, b6⟩ := bmod
      refine ⟨bm, ob, b1, b2, fun q => ?_, fun q => ?_, keepB b3 (by rw [b6]; exact fun _ _ z => nomatch z) (by rw [b6]; exact fun z => nomatch z), b4, b5, b6⟩
      · obtain ⟨o, es, ep, e, hd, _⟩ := glob
        rw [q, e] at b3
        cases b3
        rw [hd] at b6
        cases b6
      · rw [q, tab p hp] at b3
        cases b3
        cases b6
    · obtain ⟨o, es, ep, e, hd, _⟩ := glob
      rw [z, tab p hp] at e
      cases e
      cases hd
  have e0 : Env0 P w K mg (hidT s.heap H) callerA [] s H := ⟨rfl, ⟨KB, keepN glob, ⟨mb, keepN blt, boot⟩, let ⟨mc, h1, h2⟩ := lim; ⟨mc, keepN h1, h2⟩⟩, fun b o e => of_hidT e, Nat.le_of_eq (hidT_size _ _), trivial, fun b hb => absurd (show b ∈ ([] : List Addr) from hb) (by simp), hok, .of_eq gens⟩
  refine codeAny_mono ((F _ KB (keepN glob) TB).run (us := [.ref a]) (vs := [.ref a]) rfl room e0 (binds s (.ref a)) (.cons rfl .nil) (promise H (fun p hp => at_T _ (inT p hp)) seq)) fun r s' h => ?_
  match r, h with
  | .error e, h => exact (noX H e s' h).elim
  | .ok .next, h => exact False.elim h
  | .ok .brk, h => exact False.elim h
  | .ok .cont, h => exact False.elim h
  | .ok (.ret u'), ⟨v, H', os, bare, un, hok', r', q⟩ =>
    obtain rfl : v = .bl true := q
    obtain rfl : u' = Value.bool true := r'
    have old : ∀ b o, b ∉ T → s.heap.get? b = some o → s'.heap.get? b = some o := fun b o nb e => by
      by_cases c : b = a ∧ K.lookup a = none
      · have z : H b = some u := on_a b nb c
        rw [← hu] at z
        have e1 := (hok b _ z).1
        rw [e] at e1
        cases e1
        exact (hok' b _ (un.frzs b _ _ z)).1
      · exact un.keep b o e (off_a b nb c) (by intro z; exact absurd (show b ∈ ([] : List Addr) from z) (by simp)) (by simp)
    have grown : ∀ b ∈ T, ∃ more : Array Value, s'.heap.get? b = some { cls := .none, data := .fields more } := fun b hb => by
      obtain ⟨more, z⟩ := un.tbls b #[] (at_T b hb)
      exact ⟨_, hok' b _ z⟩
    refine ⟨rfl, ⟨fun b o e => ?_, fun b o e => ?_⟩, os, bare⟩
    · by_cases hb : b ∈ T
      · obtain ⟨more, hm⟩ := grown b hb
        rw [← hT] at hb
        obtain ⟨p, hp, rfl⟩ := List.mem_map.mp hb
        rw [tab p hp] at e
        cases e
        exact .inr (.inl ⟨((code p hp).tab (tab p hp)).isCodeTable, rfl, #[], more, rfl, by rw [Array.empty_append]; exact hm⟩)
      · exact .inl (old b o hb e)
    · by_cases hb : b ∈ T
      · obtain ⟨more, hm⟩ := grown b hb
        exact ⟨_, hm⟩
      · exact ⟨o, old b o hb e⟩
end
/-- what is known of the law's promise behind the top -/
def LawG (l : PySem.W.OpenLaw) (w : World) (K : PySem.W.Frag) (CX : CXT) (k n : Nat) (x : Str) (mg : Str → Option Value) (fa : Addr) (h : Heap) : Prop :=
  ∃ (fd : FuncData) (cs : List (Addr × Addr)) (sp : Sp), ((∀ p ∈ cs, h.get? p.2 = some { cls := .none, data := .fields #[] }) ∧ (∀ p ∈ cs, K.lookup p.2 = none) ∧ ∀ p ∈ cs, PySem.W.CodeHd h p.1 p.2) ∧ (∀ (s : Shared) (u : Value), BindsTo s fd ⟨[u], []⟩ [(x, u)]) ∧
    (∀ (H : Hp) (a : Addr) (ns : List Int), ns.length ≤ n → (∀ z ∈ ns, Builtin.Int.intBits z ≤ 1048576) → (∀ p ∈ cs, H p.2 = some (.tbl #[])) → SqL K H a (ns.map V.int) → sp [.ref a] H (fun v _ => v = .bl true) fun _ _ _ => False) ∧
    ∀ base : Heap, K.In base → base.Ns mainGlobals mg → (∀ p ∈ cs, LamX.TabB base mg p.1 p.2) → FnOkG l.prog w K mg base CX k fa fd [x] sp
theorem walk_ofG {l : PySem.W.OpenLaw} {n k : Nat} {q : Program} {loose : List Str} {XP : (Str → Option Value) → Heap → Prop} {YP : World → Heap → Prop} {d : DefRec} {K : Params → PySem.W.Frag} {x : Str}
    (hn : l.most = some n) (hn2 : n ≤ sizeLine) (hdf : d.params.defaults = []) (hr : Room k callerA) (hY : ∀ (w : World) (h : Heap), YP w h → (K w.params).In h)
    (F : ∀ (w : World) (mg : Str → Option Value) (fa : Addr) (h : Heap), YP w h → (K w.params).In h → h.Ns mainGlobals mg → mg d.name = some (.ref fa) → LawG l w (K w.params) CX0 k n x mg fa h) :
    PySem.W.WalkO q loose XP YP l.row.toRowW d [] (fun f vs => PySem.call f vs) := by
  refine Att.attach_callB hn hdf fun w s0 s mg mb fa o pm cd doc a vs ns G Y ho hd hcd hmg hobj hints hlen hbits hg => ?_
  have KX := hY w _ Y
  obtain ⟨fd, cs, sp, ⟨t1, t2, t3⟩, hb, hsp, hF⟩ := F w mg fa _ Y KX G.T.g hmg
  exact law_callG KX G.T.g G.T.b G.T.builtins G.T.nolimit hg t1 t2 t3 G.T.bmain hobj hints (Nat.le_trans hlen hn2) hr hF hb (fun H hH hS => hsp H a ns hlen hbits hH hS) fun H e s' z => z.elim
end NV
/-! EndK -/
set_option Elab.async false
set_option linter.all false
set_option maxRecDepth 100000
set_option maxHeartbeats 600000
/-! what the top has written, name by name -/
namespace NV
open PySem PySem.Spec PyProof.Rows L2
def At (K : PySem.W.Frag) (nm : Str) (st : Stmt) : Prop := ∃ (f : Addr) (oc : Value) (od : Option Addr) (kV doc pm : Value) (an : Option Addr) (cd ct : Value) (sl : Array (Option Value)),
  PySem.W.nsIn K mainGlobals nm = some (some (.ref f)) ∧ K.lookup f = some ⟨oc, od, .func (PySem.W.fnOf nm nm (defArgs st) (defBody st) (defScope st) .none kV doc pm an cd ct), sl⟩ ∧ PySem.W.codeIn K cd nm = true ∧ PySem.W.keepIn K (.ref f) = true
def AtI (K : PySem.W.Frag) (nm : Str) (i : Int) : Prop := ∃ t, PySem.W.nsIn K mainGlobals nm = some (some (.int i t))
def AtS (K : PySem.W.Frag) (nm : Str) (z : Str) : Prop := ∃ t, PySem.W.nsIn K mainGlobals nm = some (some (.str z t))
section
variable {K : PySem.W.Frag} {h : Heap} {mg : Str → Option Value} {nm : Str} {st : Stmt}
theorem at_mk {f : Addr} {oc : Value} {od : Option Addr} {kV doc pm : Value} {an : Option Addr} {cd ct : Value} {sl : Array (Option Value)} (a : PySem.W.nsIn K mainGlobals nm = some (some (.ref f))) (l : K.lookup f = some ⟨oc, od, .func (PySem.W.fnOf nm nm (defArgs st) (defBody st) (defScope st) .none kV doc pm an cd ct), sl⟩)
    (c : PySem.W.codeIn K cd nm = true) (k : PySem.W.keepIn K (.ref f) = true) : At K nm st := ⟨f, oc, od, kV, doc, pm, an, cd, ct, sl, a, l, c, k⟩
theorem atI_mk {i : Int} {t : Tok} (a : PySem.W.nsIn K mainGlobals nm = some (some (.int i t))) : AtI K nm i := ⟨t, a⟩
theorem atS_mk {z : Str} {t : Tok} (a : PySem.W.nsIn K mainGlobals nm = some (some (.str z t))) : AtS K nm z := ⟨t, a⟩
theorem at_int {i : Int} (X : K.In h) (G : h.Ns mainGlobals mg) (a : AtI K nm i) : ∃ u, mg nm = some u ∧ L2.RelV (.int i) u := by
  obtain ⟨t, e⟩ := a
  exact ⟨_, PySem.W.mg_of X G e, t, rfl⟩
theorem at_str {z : Str} (X : K.In h) (G : h.Ns mainGlobals mg) (a : AtS K nm z) : ∃ u, mg nm = some u ∧ L2.RelV (.str z) u := by
  obtain ⟨t, e⟩ := a
  exact ⟨_, PySem.W.mg_of X G e, t, rfl⟩
theorem fn_at {ps : List Str} (X : K.In h) (G : h.Ns mainGlobals mg) (a : At K nm st)
    (hb : ∀ (kV doc pm : Value) (an : Option Addr) (cdv ct : Value) (us : List Value), us.length = ps.length → bindArgs (PySem.W.fnOf nm nm (defArgs st) (defBody st) (defScope st) .none kV doc pm an cdv ct) ⟨us, []⟩ = pure (ps.zip us)) : Nonempty (Fn K mg nm st ps) := by
  obtain ⟨f, oc, od, kV, doc, pm, an, cd, ct, sl, a1, l1, c1, k1⟩ := a
  have F := fun_mk (st := st) l1 c1 k1
  exact ⟨⟨f, _, F, PySem.W.mg_of X G a1, F.binds hb⟩⟩
/-- a call by the one parameter's name -/
theorem kw_binds {x qual : Str} {f : Addr} {fd : FuncData} {ps ks : List Str} (F : Fun K x qual st f fd)
    (hb : ∀ (kV doc pm : Value) (an : Option Addr) (cdv ct : Value) (us ws : List Value), (us ++ ws).length = ps.length → bindArgs (PySem.W.fnOf x qual (defArgs st) (defBody st) (defScope st) .none kV doc pm an cdv ct) ⟨us, ks.zip ws⟩ = pure (ps.zip (us ++ ws))) : KBinds K fd ps ks (· ++ ·) (· ++ ·) := by
  obtain ⟨oc, od, kV, doc, pm, an, cdv, ct, osl, rfl, lk, hcd⟩ := F.ex
  exact ⟨fun s us ws _ hl => .of_eq (hb kV doc pm an cdv ct us ws hl), fun r1 r2 => r1.append r2⟩
theorem law_binds {x qual y : Str} {f : Addr} {fd : FuncData} (F : Fun K x qual st f fd)
    (hb : ∀ (kV doc pm : Value) (an : Option Addr) (cdv ct : Value) (u : Value), bindArgs (PySem.W.fnOf x qual (defArgs st) (defBody st) (defScope st) .none kV doc pm an cdv ct) ⟨[u], []⟩ = pure [(y, u)]) : ∀ (s : Shared) (u : Value), BindsTo s fd ⟨[u], []⟩ [(y, u)] := by
  obtain ⟨oc, od, kV, doc, pm, an, cdv, ct, osl, rfl, lk, hcd⟩ := F.ex
  exact fun s u => .of_eq (hb kV doc pm an cdv ct u)
end
end NV
/-! W1 -/
set_option Elab.async false
set_option linter.all false
set_option maxRecDepth 100000
set_option maxHeartbeats 600000
/-! ways: cost and path; what a pass over the log from its end finds -/
namespace NV
open PySem PySem.Spec PyProof.Rows L2
open PySem.W (dataLt alike alikeAll keyToks keyToksAll)
abbrev Path := List (Str × Str)
abbrev Way := Option (Int × Path)
def stepD (s : Str × Str) : PyData := .tuple [.str s.1, .str s.2]
def pathD (p : Path) : PyData := .tuple (p.map stepD)
def someD (x : Int × Path) : PyData := .tuple [.int x.1, pathD x.2]
def wayD : Way → PyData
  | none => .none
  | some x => someD x
theorem alike_paths : ∀ p q : Path, alikeAll (p.map stepD) (q.map stepD) = true
  | [], _ => by simp only [List.map_nil, alikeAll]
  | _ :: _, [] => by simp only [List.map_cons, List.map_nil, alikeAll]
  | a :: p, b :: q => by
    rw [List.map_cons, List.map_cons, alikeAll, alike_paths p q]
    simp [stepD, alike, alikeAll]
theorem alike_ways (x y : Int × Path) : alike (someD x) (someD y) = true := by
  unfold someD pathD
  simp [alike, alikeAll, alike_paths]
theorem depth_steps : ∀ p : Path, PyData.depthAll (p.map stepD) ≤ 1
  | [] => by simp [PyData.depthAll]
  | a :: p => by
    have ih := depth_steps p
    rw [List.map_cons]
    simp only [PyData.depthAll, stepD, PyData.depth]
    omega
theorem depth_way (x : Int × Path) : (someD x).depth ≤ 3 := by
  have := depth_steps x.2
  unfold someD pathD
  simp only [PyData.depth, PyData.depthAll]
  omega
def wayLt (x y : Int × Path) : Bool := dataLt (someD x) (someD y)
theorem wayLt_ne {x y : Int × Path} (h : x.1 ≠ y.1) : wayLt x y = decide (x.1 < y.1) := by
  unfold wayLt someD
  rw [PySem.W.dataLt_tuple, PySem.W.dataLt_all_no (by simp [alike]) (by simp [PyData.eqv, h]), PySem.W.dataLt_int]
theorem wayLt_yes {x y : Int × Path} (h : wayLt x y = true) : x.1 ≤ y.1 := by
  by_cases e : x.1 = y.1
  · omega
  · rw [wayLt_ne e] at h
    have := of_decide_eq_true h
    omega
theorem wayLt_no {x y : Int × Path} (h : wayLt x y = false) : y.1 ≤ x.1 := by
  by_cases e : x.1 = y.1
  · omega
  · rw [wayLt_ne e] at h
    have := of_decide_eq_false h
    omega
/-- the first of the least -/
def minW : List (Int × Path) → Way
  | [] => none
  | y :: ys => some (ys.foldl (fun a y => if wayLt y a then y else a) y)
theorem minD_way : ∀ (ys : List (Int × Path)) (y : Int × Path), PySem.W.minD (someD y) (ys.map someD) = someD (ys.foldl (fun a y => if wayLt y a then y else a) y)
  | [], _ => rfl
  | z :: ys, y => by
    have e : PySem.W.minD (someD y) ((z :: ys).map someD) = PySem.W.minD (someD (if wayLt z y then z else y)) (ys.map someD) := by
      unfold PySem.W.minD
      rw [List.map_cons, List.foldl_cons]
      congr 1
      show (if wayLt z y = true then someD z else someD y) = _
      split <;> rfl
    rw [e, minD_way ys]
    rfl
/-! ### the pass -/
def Ent.isW : Ent → Bool
  | .wr .. => true
  | .qu .. => false
def Ent.rs : Ent → List Str
  | .wr _ rs _ _ => rs
  | .qu _ cs => cs
def Ent.ws : Ent → List Str
  | .wr _ _ ws _ => ws
  | .qu .. => []
def Ent.pr : Ent → Option Int
  | .wr _ _ _ pr => pr
  | .qu .. => none
/-- the way past a write of this price -/
def past (pr : Option Int) : Way → Way
  | some (k, p) => match pr with
    | some i => some (k + i, p)
    | none => none
  | none => none
def blocked (e : Ent) (o : Str → Way) : Str → Way := fun c => if c ∈ e.ws then past e.pr (o c) else o c
/-- the better of a reading and the way past the reader -/
def better (x : Int × Path) : Way → Way
  | none => some x
  | some y => if wayLt x y then some x else some y
def readers (e : Ent) (way : Way) (o : Str → Way) : Str → Way := fun c => if c ∈ e.rs then
  match way with
  | none => o c
  | some (k, p) => better (k, (e.id, c) :: p) (o c) else o c
def wayFrom (o : Str → Way) (cs : List Str) : Way := minW (cs.filterMap o)
def endW : Str → Way := fun c => some (0, [("", c)])
def stepB (e : Ent) (o : Str → Way) : Str → Way := match e with
  | .wr .. => readers e (wayFrom o e.ws) (blocked e o)
  | .qu .. => readers e (some (0, [])) o
def onB : List Ent → Str → Way
  | [] => endW
  | e :: rest => stepB e (onB rest)
/-- the writes' ways, the last write first -/
def waysB : List Ent → List (Str × Way)
  | [] => []
  | e :: rest => waysB rest ++ (if e.isW then [(e.id, wayFrom (onB rest) e.ws)] else [])
theorem waysB_ids : ∀ es : List Ent, (waysB es).map (·.1) = ((es.filter Ent.isW).map Ent.id).reverse
  | [] => rfl
  | e :: rest => by
    have ih := waysB_ids rest
    unfold waysB
    rw [List.map_append, ih, List.filter_cons]
    cases e.isW <;> simp
/-! ### costs alone -/
abbrev Cost := Option Int
/-- x is at most y and s more -/
def leC (s : Int) (x y : Cost) : Prop := ∀ b, y = some b → ∃ a, x = some a ∧ a ≤ b + s
theorem leC.refl {s : Int} (h : 0 ≤ s) (x : Cost) : leC s x x := fun b e => ⟨b, e, by omega⟩
def costW : Way → Cost := Option.map (·.1)
theorem cost_past {s : Int} {pr : Option Int} {x y : Way} (h : leC s (costW x) (costW y)) : leC s (costW (past pr x)) (costW (past pr y)) := by
  intro b e
  match y, pr, e with
  | some (k, p), some i, e =>
    obtain ⟨a, ha, hab⟩ := h k rfl
    have e : k + i = b := Option.some.inj e
    match x, ha with
    | some (k', p'), ha =>
      have ha : k' = a := Option.some.inj ha
      exact ⟨k' + i, rfl, by omega⟩
/-- past and its own -/
theorem cost_past_self {i : Int} (x : Way) : leC i (costW (past (some i) x)) (costW x) := by
  intro b e
  match x, e with
  | some (k, p), e =>
    have e : k = b := Option.some.inj e
    exact ⟨k + i, rfl, by omega⟩
theorem cost_better (x : Int × Path) (y : Way) : costW (better x y) = match costW y with | none => some x.1 | some b => some (min x.1 b) := by
  match y with
  | none => rfl
  | some y =>
    show costW (if wayLt x y then some x else some y) = some (min x.1 y.1)
    cases h : wayLt x y with
    | true =>
      have := wayLt_yes h
      show some x.1 = _
      rw [Int.min_eq_left this]
    | false =>
      have := wayLt_no h
      show some y.1 = _
      rw [Int.min_eq_right this]
theorem le_better {s : Int} {a b : Int} {p q : Path} {x y : Way} (h1 : a ≤ b + s) (h2 : leC s (costW x) (costW y)) : leC s (costW (better (a, p) x)) (costW (better (b, q) y)) := by
  rw [cost_better, cost_better]
  intro c e
  cases hy : costW y with
  | none =>
    rw [hy] at e
    have e : b = c := Option.some.inj e
    cases hx : costW x with
    | none => exact ⟨a, rfl, by omega⟩
    | some k => exact ⟨min a k, rfl, by omega⟩
  | some j =>
    obtain ⟨k, hk, hkj⟩ := h2 j hy
    rw [hy] at e
    have e : min b j = c := Option.some.inj e
    rw [hk]
    exact ⟨min a k, rfl, by omega⟩
/-- a further reading never makes it dearer -/
theorem better_le {s : Int} (hs : 0 ≤ s) (x : Int × Path) {y z : Way} (h : leC s (costW y) (costW z)) : leC s (costW (better x y)) (costW z) := by
  intro b e
  obtain ⟨a, ha, hab⟩ := h b e
  rw [cost_better, ha]
  exact ⟨min x.1 a, rfl, by omega⟩
theorem fold_least : ∀ (ys : List (Int × Path)) (y : Int × Path), (ys.foldl (fun a y => if wayLt y a then y else a) y).1 ≤ y.1 ∧ (∀ z ∈ ys, (ys.foldl (fun a y => if wayLt y a then y else a) y).1 ≤ z.1) ∧ (ys.foldl (fun a y => if wayLt y a then y else a) y ∈ y :: ys)
  | [], y => ⟨Int.le_refl _, by simp, by simp⟩
  | z :: ys, y => by
    obtain ⟨h1, h2, h3⟩ := fold_least ys (if wayLt z y then z else y)
    rw [List.foldl_cons]
    have lz : (if wayLt z y then z else y).1 ≤ z.1 ∧ (if wayLt z y then z else y).1 ≤ y.1 := by
      cases h : wayLt z y with
      | true => exact ⟨Int.le_refl _, wayLt_yes h⟩
      | false => exact ⟨wayLt_no h, Int.le_refl _⟩
    refine ⟨by omega, fun u hu => ?_, ?_⟩
    · rcases List.mem_cons.mp hu with e | e
      · rw [e]; omega
      · exact h2 u e
    · rcases List.mem_cons.mp h3 with e | e
      · rw [e]
        cases wayLt z y <;> simp
      · exact List.mem_cons_of_mem _ (List.mem_cons_of_mem _ e)
/-- the least is there, and is the least -/
theorem minW_iff (l : List (Int × Path)) : (l = [] → minW l = none) ∧ (l ≠ [] → ∃ m, minW l = some m ∧ m ∈ l ∧ ∀ z ∈ l, m.1 ≤ z.1) := by
  cases l with
  | nil => exact ⟨fun _ => rfl, fun h => absurd rfl h⟩
  | cons y ys =>
    obtain ⟨h1, h2, h3⟩ := fold_least ys y
    refine ⟨(fun h => by cases h), fun _ => ⟨_, rfl, h3, fun z hz => ?_⟩⟩
    rcases List.mem_cons.mp hz with e | e
    · rw [e]; exact h1
    · exact h2 z e
theorem le_from {s : Int} {o o' : Str → Way} {cs : List Str} (h : ∀ c, leC s (costW (o c)) (costW (o' c))) : leC s (costW (wayFrom o cs)) (costW (wayFrom o' cs)) := by
  intro b e
  have hne : cs.filterMap o' ≠ [] := fun z => by
    have q := (minW_iff (cs.filterMap o')).1 z
    unfold wayFrom at e
    rw [q] at e
    cases e
  obtain ⟨m, hm, hmem, _⟩ := (minW_iff (cs.filterMap o')).2 hne
  unfold wayFrom at e
  rw [hm] at e
  have e : m.1 = b := Option.some.inj e
  obtain ⟨c, hc, hoc⟩ := List.mem_filterMap.mp hmem
  obtain ⟨a, ha, hab⟩ := h c m.1 (by rw [hoc]; rfl)
  obtain ⟨w, hw, rfl⟩ : ∃ w, o c = some w ∧ w.1 = a := by
    cases ho : o c with
    | none => rw [ho] at ha; cases ha
    | some w => rw [ho] at ha; exact ⟨w, rfl, Option.some.inj ha⟩
  have hin : w ∈ cs.filterMap o := List.mem_filterMap.mpr ⟨c, hc, hw⟩
  obtain ⟨m', hm', _, hl⟩ := (minW_iff (cs.filterMap o)).2 (fun z => by rw [z] at hin; cases hin)
  refine ⟨m'.1, by unfold wayFrom; rw [hm']; rfl, ?_⟩
  have := hl w hin
  omega
/-- cheaper ways on make cheaper ways -/
theorem le_step {s : Int} (hs : 0 ≤ s) (e : Ent) {o o' : Str → Way} (h : ∀ c, leC s (costW (o c)) (costW (o' c))) : ∀ c, leC s (costW (stepB e o c)) (costW (stepB e o' c)) := by
  have reads : ∀ (w w' : Way) (u u' : Str → Way), leC s (costW w) (costW w') → (∀ c, leC s (costW (u c)) (costW (u' c))) → ∀ c, leC s (costW (readers e w u c)) (costW (readers e w' u' c)) := by
    intro w w' u u' hw hu c
    unfold readers
    by_cases hc : c ∈ e.rs
    · rw [if_pos hc, if_pos hc]
      match w', w, hw with
      | none, none, _ => exact hu c
      | none, some (k, p), _ => exact better_le hs _ (hu c)
      | some (k', p'), some (k, p), hw =>
        obtain ⟨a, ha, hab⟩ := hw k' rfl
        have ha : k = a := Option.some.inj ha
        exact le_better (by omega) (hu c)
      | some (k', p'), none, hw =>
        obtain ⟨a, ha, _⟩ := hw k' rfl
        cases ha
    · rw [if_neg hc, if_neg hc]
      exact hu c
  match e with
  | .wr id rs ws pr =>
    refine reads _ _ _ _ (le_from h) fun c => ?_
    unfold blocked
    by_cases hc : c ∈ (Ent.wr id rs ws pr).ws
    · rw [if_pos hc, if_pos hc]
      exact cost_past (h c)
    · rw [if_neg hc, if_neg hc]
      exact h c
  | .qu id cs => exact reads (some (0, [])) (some (0, [])) o o' (leC.refl hs _) h
theorem le_pre {s : Int} (hs : 0 ≤ s) {es es' : List Ent} (h : ∀ c, leC s (costW (onB es c)) (costW (onB es' c))) : ∀ pre : List Ent, ∀ c, leC s (costW (onB (pre ++ es) c)) (costW (onB (pre ++ es') c))
  | [] => h
  | e :: pre => le_step hs e (le_pre hs h pre)
/-! ### the costs of the writes, in log order -/
def costsL : List Ent → List (Str × Cost)
  | [] => []
  | e :: rest => (if e.isW then [(e.id, costW (wayFrom (onB rest) e.ws))] else []) ++ costsL rest
theorem costsL_ways : ∀ es : List Ent, costsL es = ((waysB es).map fun x => (x.1, costW x.2)).reverse
  | [] => rfl
  | e :: rest => by
    have ih := costsL_ways rest
    unfold costsL waysB
    rw [ih, List.map_append, List.reverse_append]
    cases e.isW <;> simp
theorem costsL_names : ∀ es : List Ent, (costsL es).map (·.1) = (es.filter Ent.isW).map Ent.id
  | [] => rfl
  | e :: rest => by
    have ih := costsL_names rest
    unfold costsL
    rw [List.map_append, ih, List.filter_cons]
    cases e.isW <;> simp
/-- after's costs are before's, or lower by no more than s: what _law_rises asks -/
def rises (before after : List (Str × Cost)) (s : Int) : Prop := ∀ n x y, (n, x) ∈ before → (n, y) ∈ after → leC s x y
theorem costs_pre {s : Int} (hs : 0 ≤ s) {es es' : List Ent} (h : ∀ c, leC s (costW (onB es c)) (costW (onB es' c))) (own : rises (costsL es) (costsL es') s) : ∀ pre : List Ent, ((pre ++ es).map Ent.id).Nodup → ((pre ++ es').map Ent.id).Nodup → rises (costsL (pre ++ es)) (costsL (pre ++ es')) s
  | [], _, _ => own
  | e :: pre, nd, nd' => by
    have nd2 := List.nodup_cons.mp nd
    have nd2' := List.nodup_cons.mp nd'
    have ih := costs_pre hs h own pre nd2.2 nd2'.2
    have names : ∀ (l : List Ent) n x, (n, x) ∈ costsL l → n ∈ l.map Ent.id := fun l n x hx => by
      have : n ∈ (costsL l).map (·.1) := List.mem_map.mpr ⟨_, hx, rfl⟩
      rw [costsL_names] at this
      obtain ⟨u, hu, rfl⟩ := List.mem_map.mp this
      exact List.mem_map.mpr ⟨u, (List.mem_filter.mp hu).1, rfl⟩
    intro n x y hx hy
    have hx : (n, x) ∈ (if e.isW then [(e.id, costW (wayFrom (onB (pre ++ es)) e.ws))] else []) ++ costsL (pre ++ es) := hx
    have hy : (n, y) ∈ (if e.isW then [(e.id, costW (wayFrom (onB (pre ++ es')) e.ws))] else []) ++ costsL (pre ++ es') := hy
    rcases List.mem_append.mp hx with hx | hx
    · cases hw : e.isW with
      | false => rw [hw] at hx; cases hx
      | true =>
        rw [hw] at hx hy
        simp only [if_true, List.mem_singleton, Prod.mk.injEq] at hx
        rcases List.mem_append.mp hy with hy | hy
        · simp only [if_true, List.mem_singleton, Prod.mk.injEq] at hy
          rw [hx.2, hy.2]
          exact le_from (le_pre hs h pre)
        · exact absurd (by rw [← hx.1]; exact names _ _ _ hy) nd2'.1
    · rcases List.mem_append.mp hy with hy | hy
      · cases hw : e.isW with
        | false => rw [hw] at hy; cases hy
        | true =>
          rw [hw] at hy
          simp only [if_true, List.mem_singleton, Prod.mk.injEq] at hy
          exact absurd (by rw [← hy.1]; exact names _ _ _ hx) nd2.1
      · exact ih n x y hx hy
theorem rises_self {s : Int} (hs : 0 ≤ s) {es : List Ent} (nd : (es.map Ent.id).Nodup) : rises (costsL es) (costsL es) s := by
  intro n x y hx hy
  have names : ((costsL es).map (·.1)).Nodup := by
    rw [costsL_names]
    exact nd.sublist (List.filter_sublist.map _)
  have e : x = y := by
    clear nd hs
    generalize costsL es = l at names hx hy
    induction l with
    | nil => cases hx
    | cons z l ih =>
      rw [List.map_cons] at names
      have nn := List.nodup_cons.mp names
      rcases List.mem_cons.mp hx with a | a <;> rcases List.mem_cons.mp hy with b | b
      · rw [← a] at b
        exact (Prod.mk.inj b).2.symm
      · exact absurd (List.mem_map.mpr ⟨_, b, by rw [← a]⟩) nn.1
      · exact absurd (List.mem_map.mpr ⟨_, a, by rw [← b]⟩) nn.1
      · exact ih nn.2 a b
  rw [e]
  exact leC.refl hs y
end NV
/-! D10 -/
set_option Elab.async false
set_option linter.all false
set_option maxRecDepth 100000
set_option maxHeartbeats 400000
namespace NV
open PySem PySem.Spec PyProof.Rows L2
open C8 (pss_cut)
theorem tup_kind {H : Hp} {a b : Addr} {xs : List V} {o : HO} (h : H a = some (.tup xs)) (h' : H b = some o) (n : ∀ ys, o ≠ .tup ys) : a ≠ b := fun e => by
  rw [e, h'] at h
  exact n xs (Option.some.inj h)
/-- pick of [1, 1, 2, 3] -/
theorem pick_most {j : Nat} {v : V} (h : ([V.int 1, V.int 1, V.int 2, V.int 3] : List V)[j]? = some v) : ∃ m : Nat, v = .int m ∧ 1 ≤ m ∧ m ≤ 3 := by
  match j, h with
  | 0, h => exact ⟨1, (Option.some.inj h).symm, by decide, by decide⟩
  | 1, h => exact ⟨1, (Option.some.inj h).symm, by decide, by decide⟩
  | 2, h => exact ⟨2, (Option.some.inj h).symm, by decide, by decide⟩
  | 3, h => exact ⟨3, (Option.some.inj h).symm, by decide, by decide⟩
  | j + 4, h => simp at h
theorem strs_rp {ex : List Addr} {H : Hp} {p : Addr} {zs : List Str} (hp : p ∉ ex) (h : H p = some (.tup (zs.map V.str))) : Rp ex H (.tuple (zs.map .str)) (.ref p) := ⟨p, _, rfl, hp, h, RpAll.strs zs⟩

abbrev sLawLog : Stmt := topS 63
theorem scLawLog : FnScope ["draw", "many", "cells", "found", "name", "reads", "writes"] ["draw", "many", "cells"] (defScope sLawLog) := ⟨rfl, rfl, rfl, by decide +kernel, rfl, by decide +kernel, by decide +kernel⟩
/-- a log that is drawn; whose words its ids and cells are -/
def spLogF (K : PySem.W.Frag) : Sp := fun vs H Q _ => ∃ (D : Dr) (n many : Nat) (c : Addr) (zs : List Str) (ex : List Addr), vs = [.ref D.d, .int many, .ref c] ∧ many ≤ 62 ∧ H c = some (.lst (zs.map V.str)) ∧ c ∉ D.all ∧ Asc zs ∧ (∀ z ∈ zs, cellB z = true) ∧ 1 ≤ zs.length ∧ zs.length < 64 ∧
  (∀ b ∈ D.ex, b ∈ ex) ∧ Live ex H ∧ DrAt D (n + (1 + 14 * many)) H ∧
  ∀ (es : List Ent) (p : Addr) (H' : Hp), LogOk es → (∀ e ∈ es, e.id ∈ idAll ∧ ∀ c ∈ e.rs ++ e.ws, c ∈ zs) → es.length = many → Rp ex H' (logD es) (.ref p) → Kp D.ex H H' → DrAt D n H' → Q (.ref p) H'
def spLog (K : PySem.W.Frag) : Sp := fun vs H Q _ => ∃ (D : Dr) (n many : Nat) (c : Addr) (zs : List Str) (ex : List Addr), vs = [.ref D.d, .int many, .ref c] ∧ many ≤ 62 ∧ H c = some (.lst (zs.map V.str)) ∧ c ∉ D.all ∧ Asc zs ∧ (∀ z ∈ zs, cellB z = true) ∧ 1 ≤ zs.length ∧ zs.length < 64 ∧
  (∀ b ∈ D.ex, b ∈ ex) ∧ Live ex H ∧ DrAt D (n + (1 + 14 * many)) H ∧
  ∀ (es : List Ent) (p : Addr) (H' : Hp), LogOk es → es.length = many → Rp ex H' (logD es) (.ref p) → Kp D.ex H H' → DrAt D n H' → Q (.ref p) H'
section
variable {P : Program} {w : World} {K : PySem.W.Frag} {mg : Str → Option Value} {base : Heap}
theorem ok_logF (DLawLog : Fn K mg "_law_log" sLawLog ["draw", "many", "cells"]) (DLawTake : Fn K mg "_law_take" sLawTake ["draw", "size"]) (DLawPick : Fn K mg "_law_pick" sLawPick ["draw", "some"]) (DLawPrice : Fn K mg "_law_price" sLawPrice ["draw"])
    (DLawSome : Fn K mg "_law_some" sLawSome ["draw", "things", "least", "most"]) (DLawIds : Fn K mg "_law_ids" sLawIds ["draw", "many"]) (b_tuple : mg "tuple" = none)
    (GLawTake : FnOk P w K mg base CX0 2 DLawTake.f DLawTake.fd ["draw", "size"] spTake) (GLawPick : FnOk P w K mg base CX0 3 DLawPick.f DLawPick.fd ["draw", "some"] (spPick K)) (GLawPrice : FnOk P w K mg base CX0 4 DLawPrice.f DLawPrice.fd ["draw"] spPrice)
    (GLawSome : FnOk P w K mg base CX0 3 DLawSome.f DLawSome.fd ["draw", "things", "least", "most"] (spSome K)) (GLawIds : FnOk P w K mg base CX0 3 DLawIds.f DLawIds.fd ["draw", "many"] spIds) :
    FnOk P w K mg base CX0 5 DLawLog.f DLawLog.fd ["draw", "many", "cells"] (spLogF K) := by
  refine DLawLog.F.ok scLawLog (fun vs H Q E h => ?_) (fun cdv A outer s H vs Q E hr h => ?_)
  · obtain ⟨D, n, many, c, zs, ex, rfl, _⟩ := h
    rfl
  obtain ⟨D, n, many, c, zs, ex, rfl, hm, hS, hc, hasc, hcell, hz1, hz64, hex, hlive, hD, q⟩ := h
  refine ⟨_, pss_cons (ps_set (i := 3) scLawLog.nd rfl (.inl rfl) (pe_lst pa_nil))
      (pss_cons (ps_for PassesOwn.never rfl (piListE K (pe_fn DLawIds GLawIds hr (pa_cons (pv 0) (pa_cons (pv 1) pa_nil)))) (pg_name (i := 4) scLawLog.nd rfl (.inl rfl))
      (pss_one (ps_if (pt_cmpR op_eq (pe_fn DLawTake GLawTake hr (pa_cons (pv 0) (pa_cons pe_int pa_nil))) pe_int (nomark _))
      (pss_one (ps_expr (bmE K PySem.F.plainAttrs_list PySem.F.slot_list_append PySem.F.type_list_append mt_append (pv 3) (pa_cons (pe_tup (pa_cons pe_str (pa_cons (pv 4) (pa_cons (pe_fn DLawSome GLawSome hr (pa_cons (pv 0) (pa_cons (pv 2) (pa_cons pe_int (pa_cons pe_int pa_nil))))) pa_nil)))) pa_nil))))
      (pss_cons (ps_set (i := 5) scLawLog.nd rfl (.inl rfl) (pe_fn DLawSome GLawSome hr (pa_cons (pv 0) (pa_cons (pv 2) (pa_cons pe_int (pa_cons (pe_fn DLawPick GLawPick hr (pa_cons (pv 0) (pa_cons (pe_lst (pa_cons pe_int (pa_cons pe_int (pa_cons pe_int (pa_cons pe_int pa_nil))))) pa_nil))) pa_nil))))))
      (pss_cons (ps_set (i := 6) scLawLog.nd rfl (.inl rfl) (pe_fn DLawSome GLawSome hr (pa_cons (pv 0) (pa_cons (pv 2) (pa_cons pe_int (pa_cons (pe_fn DLawPick GLawPick hr (pa_cons (pv 0) (pa_cons (pe_lst (pa_cons pe_int (pa_cons pe_int (pa_cons pe_int (pa_cons pe_int pa_nil))))) pa_nil))) pa_nil))))))
      (pss_one (ps_expr (bmE K PySem.F.plainAttrs_list PySem.F.slot_list_append PySem.F.type_list_append mt_append (pv 3) (pa_cons (pe_tup (pa_cons pe_str (pa_cons (pv 4) (pa_cons (pv 5) (pa_cons (pv 6) (pa_cons (pe_fn DLawPrice GLawPrice hr (pa_cons (pv 0) pa_nil)) pa_nil)))))) pa_nil)))))))))
      (pss_one (ps_ret (pe_callTy call_tuple_of (by rfl) b_tuple (by decide +kernel) (pa_cons (pv 3) pa_nil))))), ?_⟩
  -- found = []
  refine ⟨Nat.zero_le _, fun fo hfo => ?_⟩
  have nfo := hD.fresh hfo
  have nfe : fo ∉ ex := hlive.fresh hfo
  have k1 : Kp [] H (upd H fo (.lst [])) := Kp.laid hfo
  have e1 : upd H fo (.lst []) fo = some (.lst []) := upd_same
  have d1 := hD.keep k1
  generalize upd H fo (.lst []) = H1 at k1 e1 d1 ⊢
  -- the ids
  refine ⟨_, rfl, _, rfl, D, n + 13 * many, many, rfl, hm, d1.less (by omega), fun ids pI H2 hids hlen nI eI k2 d2 => ?_⟩
  have k12 : Kp D.ex H H2 := (k1.mono (by simp)).trans k2
  have nIfo : pI ≠ fo := fun z => by rw [z, e1] at nI; cases nI
  have ef2 := k2 _ _ (Dr.sub nfo) e1
  have hS2 := k12 _ _ (Dr.sub hc) hS
  have live2 : Live (fo :: ex) H2 := fun b hb => by
    rcases List.mem_cons.mp hb with z | z
    · rw [z, ef2]; exact fun q => nomatch q
    · exact (hlive.keep k12 d2) b z
  have cfo : c ≠ fo := ne_of_none hS hfo
  refine ⟨pI, rfl, ⟨_, SqL.of eI⟩, for_list (K := K) (a := pI) (xs := ids.map V.str) (fun i σ H' => ∃ (v4 v5 v6 : Option V) (es : List Ent) (xs : List V), σ = [some (.ref D.d), some (.int many), some (.ref c), some (.ref fo), v4, v5, v6] ∧ es.map Ent.id = ids.take i ∧ (∀ e ∈ es, e.Ok ∧ ∀ c ∈ e.rs ++ e.ws, c ∈ zs) ∧
      H' fo = some (.lst xs) ∧ RpAll (fo :: ex) H' (es.map Ent.data) xs ∧ Kp (fo :: D.ex) H2 H' ∧ DrAt D (n + 13 * (many - i)) H') ?_ ?_ ?_ ?_⟩
  · exact ⟨none, none, none, [], [], rfl, rfl, fun e he => by simp at he, ef2, rfl, Kp.refl, d2⟩
  · rintro i σ H' hi ⟨v4, v5, v6, es, xs, rfl, h1, h2, h3, h4, k3, d3⟩
    refine SqL.of (k3 pI _ (fun z => ?_) eI)
    rcases List.mem_cons.mp z with z | z
    · exact nIfo z
    · exact Dr.sub (d1.fresh nI) z
  · rintro i y σ H' hi ⟨v4, v5, v6, es, xs, rfl, h1, h2, h3, h4, k3, d3⟩
    have hi' : i < ids.length := by
      have := (List.getElem?_eq_some_iff.mp hi).1
      rw [List.length_map] at this
      exact this
    have ey : y = .str ids[i] := by
      rw [List.getElem?_map, List.getElem?_eq_getElem hi'] at hi
      exact (Option.some.inj hi).symm
    subst ey
    have hid : idB ids[i] = true := hids.ok _ (List.getElem_mem hi')
    have htk : ids.take (i + 1) = ids.take i ++ [ids[i]] := by rw [List.take_add_one, List.getElem?_eq_getElem hi']; rfl
    have him : i < many := by omega
    have hes : es.length = i := by
      have := congrArg List.length h1
      rw [List.length_map, List.length_take] at this
      omega
    have hxl : xs.length = i := by rw [← h4.len, List.length_map, hes]
    obtain ⟨N, hN⟩ : ∃ N, N = n + 13 * (many - (i + 1)) := ⟨_, rfl⟩
    have d3' : DrAt D (N + 13) H' := d3.less (by omega)
    have kx : ∀ {A B : Hp}, Kp D.ex A B → Kp (fo :: D.ex) A B := fun k => k.mono fun b hb => List.mem_cons_of_mem _ hb
    have sub' : ∀ b ∈ D.ex, b ∈ fo :: ex := fun b hb => List.mem_cons_of_mem _ (hex b hb)
    -- one more entry
    have more : ∀ (e : Ent) (a : Addr) (H4 : Hp) (v5 v6 : Option V), e.id = ids[i] → (e.Ok ∧ ∀ c ∈ e.rs ++ e.ws, c ∈ zs) → Kp D.ex H' H4 → DrAt D N H4 → Rp (fo :: ex) H4 e.data (.ref a) →
        (∃ (v4 v5' v6' : Option V) (es' : List Ent) (xs' : List V), [some (V.ref D.d), some (.int many), some (.ref c), some (.ref fo), some (.str ids[i]), v5, v6] = [some (V.ref D.d), some (.int many), some (.ref c), some (.ref fo), v4, v5', v6'] ∧ es'.map Ent.id = ids.take (i + 1) ∧ (∀ e ∈ es', e.Ok ∧ ∀ c ∈ e.rs ++ e.ws, c ∈ zs) ∧
          (upd H4 fo (.lst (xs ++ [.ref a]))) fo = some (.lst xs') ∧ RpAll (fo :: ex) (upd H4 fo (.lst (xs ++ [.ref a]))) (es'.map Ent.data) xs' ∧ Kp (fo :: D.ex) H2 (upd H4 fo (.lst (xs ++ [.ref a]))) ∧ DrAt D (n + 13 * (many - (i + 1))) (upd H4 fo (.lst (xs ++ [.ref a])))) := by
      intro e a H4 v5 v6 he hok k4 d4 r4
      have kp : Kp (fo :: ex) H4 (upd H4 fo (.lst (xs ++ [.ref a]))) := Kp.put List.mem_cons_self
      have kfe : Kp (fo :: ex) H' H4 := k4.mono sub'
      refine ⟨_, _, _, es ++ [e], xs ++ [.ref a], rfl, ?_, fun e' he' => ?_, upd_same, ?_, (k3.trans (kx k4)).trans (Kp.put List.mem_cons_self), by rw [← hN]; exact d4.upd nfo⟩
      · rw [List.map_append, h1, htk, ← he]; rfl
      · rcases List.mem_append.mp he' with z | z
        · exact h2 e' z
        · rw [List.mem_singleton.mp z]; exact hok
      · rw [List.map_append]
        exact (RpAll.keep (kfe.trans kp) _ _ h4).app (RpAll.one (Rp.keep kp _ _ r4))
    have live3 : Live (fo :: ex) H' := fun b hb => by
      rcases List.mem_cons.mp hb with z | z
      · rw [z, h3]; exact fun q => nomatch q
      · intro q
        have : H2 b ≠ none := live2 b (List.mem_cons_of_mem _ z)
        cases e : H2 b with
        | none => exact this e
        | some o =>
          by_cases w : b ∈ fo :: D.ex
          · rcases List.mem_cons.mp w with w | w
            · rw [w, h3] at q; cases q
            · exact absurd w (Dr.sub (d3.fresh q))
          · rw [k3 b o w e] at q; cases q
    have hcS : H' c = some (.lst (zs.map V.str)) := k3 c _ (fun z => by
      rcases List.mem_cons.mp z with z | z
      · exact cfo z
      · exact Dr.sub hc z) hS2
    -- take(draw, 5)
    refine ⟨_, rfl, D, N + 12, 5, rfl, by decide, by decide, d3', fun t H4 t0 t1 k4 d4 => ⟨rfl, _, rfl, ite2 (fun cc => ?_) (fun cc => ?_)⟩⟩
    · -- a query
      have h3' := k4 _ _ (Dr.sub nfo) h3
      refine ⟨_, rfl, .inl ⟨rfl, _, SqL.of h3'⟩, _, rfl, _, rfl, _, rfl, D, N, c, zs, 1, 3, rfl, SqL.of (k4 _ _ (Dr.sub hc) hcS), hc, hz64, by decide, by decide, d4.less (by omega), fun ys p H5 hys hya hyl hyh np ep k5 d5 => ?_⟩
      refine ⟨by show 3 ≤ sizeLine; decide, fun a na => ?_⟩
      have live4 := live3.keep k4 d4
      have pfe : p ∉ fo :: ex := live4.fresh np
      have live5 := live4.keep k5 d5
      have afe : a ∉ fo :: ex := live5.fresh na
      have hco : CellsOk 1 ys := ⟨hya hasc.nodup, fun y hy => hcell y (hys y hy), by omega, hyh⟩
      have afo : a ≠ fo := fun z => afe (by rw [z]; exact List.mem_cons_self)
      have h3'' : (upd H5 a (.tup [.str "query", .str ids[i], .ref p])) fo = some (.lst xs) := by rw [upd_ne afo.symm]; exact k5 _ _ (Dr.sub nfo) h3'
      refine ⟨fo, xs, .ref a, rfl, rfl, h3'', small1000 (by omega), ?_⟩
      refine more (.qu ids[i] ys) a _ _ _ rfl ⟨⟨hid, hco⟩, fun c hc => hys c ((List.mem_append.mp hc).elim id fun h => nomatch h)⟩ ((k4.trans k5).trans (Kp.laid na)) (d5.keep (Kp.laid na)) ⟨a, _, rfl, afe, upd_same, _, _, rfl, rfl, _, _, rfl, rfl, _, _, rfl, ?_, rfl⟩
      exact strs_rp pfe (by rw [upd_ne (ne_of_none ep na)]; exact ep)
    · -- a write: what it reads
      refine ⟨_, rfl, _, rfl, _, rfl, by show 4 ≤ sizeLine; decide, fun l1 nl1 => ?_⟩
      have d4a : DrAt D (N + 11 + 1) (upd H4 l1 (.lst [V.int 1, V.int 1, V.int 2, V.int 3])) := d4.keep (Kp.laid nl1)
      refine ⟨D, N + 11, l1, _, rfl, SqL.of upd_same, by show 0 < 4; decide, by show 4 < 1073741824; decide, Dr.sub (d4.fresh nl1), d4a, fun j v H5 hj k5 d5 => ?_⟩
      obtain ⟨m, rfl, m1, m3⟩ := pick_most hj
      have k45 : Kp D.ex H' H5 := k4.trans ((Kp.laid nl1).trans k5)
      refine ⟨D, N + 7, c, zs, 0, m, rfl, SqL.of (k45 _ _ (Dr.sub hc) hcS), hc, hz64, by omega, by omega, d5.less (by omega), fun rs p1 H6 hrs hra hrl hrh np1 ep1 k6 d6 => ?_⟩
      have k46 := k45.trans k6
      have live5 := live3.keep k45 d5
      have p1fe : p1 ∉ fo :: ex := live5.fresh np1
      -- what it writes
      refine ⟨_, rfl, _, rfl, _, rfl, by show 4 ≤ sizeLine; decide, fun l2 nl2 => ?_⟩
      have d6a : DrAt D (N + 6 + 1) (upd H6 l2 (.lst [V.int 1, V.int 1, V.int 2, V.int 3])) := d6.keep (Kp.laid nl2)
      refine ⟨D, N + 6, l2, _, rfl, SqL.of upd_same, by show 0 < 4; decide, by show 4 < 1073741824; decide, Dr.sub (d6.fresh nl2), d6a, fun j2 v2 H7 hj2 k7 d7 => ?_⟩
      obtain ⟨m2, rfl, m21, m23⟩ := pick_most hj2
      have k67 : Kp D.ex H6 H7 := (Kp.laid nl2).trans k7
      have k47 := k46.trans k67
      refine ⟨D, N + 2, c, zs, 1, m2, rfl, SqL.of (k47 _ _ (Dr.sub hc) hcS), hc, hz64, by omega, by omega, d7.less (by omega), fun ws p2 H8 hws hwa hwl hwh np2 ep2 k8 d8 => ?_⟩
      have k48 := k47.trans k8
      have live7 := live3.keep k47 d7
      have p2fe : p2 ∉ fo :: ex := live7.fresh np2
      have h3' := k48 _ _ (Dr.sub nfo) h3
      -- the price, and the entry
      refine ⟨_, rfl, .inl ⟨rfl, _, SqL.of h3'⟩, _, rfl, _, rfl, _, rfl, _, rfl, D, N, rfl, d8, fun pr H9 hpr k9 d9 => ?_⟩
      refine ⟨by show 5 ≤ sizeLine; decide, fun a na => ?_⟩
      have k49 := k48.trans k9
      have live9 := live3.keep k49 d9
      have afe : a ∉ fo :: ex := live9.fresh na
      have afo : a ≠ fo := fun z => afe (by rw [z]; exact List.mem_cons_self)
      have h9 := k9 _ _ (Dr.sub nfo) h3'
      have h3'' : (upd H9 a (.tup [.str "write", .str ids[i], .ref p1, .ref p2, prV pr])) fo = some (.lst xs) := by rw [upd_ne afo.symm]; exact h9
      have e1' := (k67.trans (k8.trans k9)) _ _ (fun z => p1fe (sub' _ z)) ep1
      have e2' := k9 _ _ (fun z => p2fe (sub' _ z)) ep2
      have hcr : CellsOk 0 rs := ⟨hra hasc.nodup, fun y hy => hcell y (hrs y hy), Nat.zero_le _, by omega⟩
      have hcw : CellsOk 1 ws := ⟨hwa hasc.nodup, fun y hy => hcell y (hws y hy), by omega, by omega⟩
      refine ⟨fo, xs, .ref a, rfl, rfl, h3'', small1000 (by omega), ?_⟩
      refine more (.wr ids[i] rs ws pr) a _ _ _ rfl ⟨⟨hid, hcr, hcw, hpr⟩, fun c hc => (List.mem_append.mp hc).elim (hrs c) (hws c)⟩ (k49.trans (Kp.laid na)) (d9.keep (Kp.laid na)) ⟨a, _, rfl, afe, upd_same, _, _, rfl, rfl, _, _, rfl, rfl, _, _, rfl, ?_, _, _, rfl, ?_, _, _, rfl, prV_rp pr, rfl⟩
      · exact strs_rp p1fe (by rw [upd_ne (ne_of_none e1' na)]; exact e1')
      · exact strs_rp p2fe (by rw [upd_ne (ne_of_none e2' na)]; exact e2')
  · rintro σ H' ⟨v4, v5, v6, es, xs, rfl, h1, h2, h3, h4, k3, d3⟩
    rw [List.length_map, hlen, List.take_of_length_le (Nat.le_of_eq hlen)] at h1
    refine ⟨_, rfl, fo, xs, rfl, .inl ⟨SqL.of h3, fun p np => ?_⟩⟩
    have kH : Kp D.ex H H' := ((k12.mono fun b hb => List.mem_cons_of_mem _ hb).trans k3).drop hfo
    have lv := hlive.keep kH d3
    refine q es p _ ⟨fun e he => (h2 e he).1, by rw [h1]; exact hids.nd⟩ (fun e he => ⟨hids.far e.id (by rw [← h1]; exact List.mem_map.mpr ⟨e, he, rfl⟩), (h2 e he).2⟩) ?_ ⟨p, xs, rfl, lv.fresh np, upd_same, ?_⟩ (kH.trans (Kp.laid np)) ((d3.less (by omega)).keep (Kp.laid np))
    · have := congrArg List.length h1
      rw [List.length_map] at this
      omega
    · exact (RpAll.keep (Kp.laid np) _ _ h4).less fun b hb => List.mem_cons_of_mem _ hb
theorem ok_log (DLawLog : Fn K mg "_law_log" sLawLog ["draw", "many", "cells"]) (DLawTake : Fn K mg "_law_take" sLawTake ["draw", "size"]) (DLawPick : Fn K mg "_law_pick" sLawPick ["draw", "some"]) (DLawPrice : Fn K mg "_law_price" sLawPrice ["draw"])
    (DLawSome : Fn K mg "_law_some" sLawSome ["draw", "things", "least", "most"]) (DLawIds : Fn K mg "_law_ids" sLawIds ["draw", "many"]) (b_tuple : mg "tuple" = none)
    (GLawTake : FnOk P w K mg base CX0 2 DLawTake.f DLawTake.fd ["draw", "size"] spTake) (GLawPick : FnOk P w K mg base CX0 3 DLawPick.f DLawPick.fd ["draw", "some"] (spPick K)) (GLawPrice : FnOk P w K mg base CX0 4 DLawPrice.f DLawPrice.fd ["draw"] spPrice)
    (GLawSome : FnOk P w K mg base CX0 3 DLawSome.f DLawSome.fd ["draw", "things", "least", "most"] (spSome K)) (GLawIds : FnOk P w K mg base CX0 3 DLawIds.f DLawIds.fd ["draw", "many"] spIds) :
    FnOk P w K mg base CX0 5 DLawLog.f DLawLog.fd ["draw", "many", "cells"] (spLog K) :=
  (ok_logF DLawLog DLawTake DLawPick DLawPrice DLawSome DLawIds b_tuple GLawTake GLawPick GLawPrice GLawSome GLawIds).imp fun vs H Q E h => by
    obtain ⟨D, n, many, c, zs, ex, h1, h2, h3, h4, h5, h6, h7, h8, h9, h10, h11, q⟩ := h
    exact ⟨D, n, many, c, zs, ex, h1, h2, h3, h4, h5, h6, h7, h8, h9, h10, h11, fun es p H' a _ => q es p H' a⟩
end
end NV
/-! D11 -/
set_option Elab.async false
set_option linter.all false
set_option maxRecDepth 100000
set_option maxHeartbeats 400000
namespace NV
open PySem PySem.Spec PyProof.Rows L2
open C8 (pss_cut)
theorem SqL.upd_new {K : PySem.W.Frag} {H : Hp} {a C : Addr} {xs : List V} {o : HO} (h : SqL K H a xs) (nC : H C = none) : SqL K (upd H C o) a xs := Kp.seqL (ex := []) (Kp.laid nC) (by simp) h
theorem SqL.upd_two {K : PySem.W.Frag} {H : Hp} {a C : Addr} {xs : List V} {o u : HO} (h : SqL K H a xs) (nC : H C = none) : SqL K (upd (upd H C o) C u) a xs := by
  rw [upd_upd]; exact SqL.upd_new h nC
/-- a comprehension over a list whose test and element change nothing -/
theorem lc_pureL {K : PySem.W.Frag} {tt : TT} {te : TE} {i : Nat} {σ : L2.St} {C a : Addr} {xs : List V} {H1 : Hp} {Qd : Hp → Prop} (p : V → Bool) (f : V → V) (hS : SqL K H1 a xs) (nC : H1 C = none) (hz : xs.length < 1000)
    (htt : ∀ (x : V) (H : Hp) (Q : Bool → Hp → Prop), x ∈ xs → SqL K H a xs → Q (p x) H → tt ((wipe σ [i]).set i (some x)) H Q)
    (hte : ∀ (x : V) (H : Hp) (Q : V → Hp → Prop), x ∈ xs → SqL K H a xs → p x = true → Q (f x) H → te ((wipe σ [i]).set i (some x)) H Q) (hd : Qd (upd H1 C (.lst ((xs.filter p).map f)))) :
    ∃ W : Nat → Nat → Hp → Prop, (∃ m, W 0 m (upd H1 C (.lst []))) ∧ ∀ i' m H, W i' m H →
      ((Itl K a).stop i' H ∧ Qd H) ∨ ((Itl K a).go i' H ∧ ∃ Nx : Hp → Prop, (∀ H', Nx H' → ∃ m', m' < m ∧ W (i' + 1) m' H') ∧ ∀ x H', (Itl K a).yld i' H x H' → gName i x (wipe σ [i]) H' fun σ2 H2 => wipe σ2 [i] = wipe σ [i] ∧ tt σ2 H2 fun b H3 =>
        if b = true then te σ2 H3 fun y H4 => ∃ acc, H4 C = some (.lst acc) ∧ acc.length < sizeLine ∧ Nx (upd H4 C (.lst (acc ++ [y]))) else Nx H3) := by
  refine lc_list (K := K) (a := a) (xs := xs) (fun j H' => H' = upd H1 C (.lst (((xs.take j).filter p).map f))) rfl (fun j H' _ e => by rw [e]; exact SqL.upd_new hS nC) (fun j x H' hx e => ?_) (fun H' e => by rw [e, List.take_length]; exact hd)
  subst e
  have hm : x ∈ xs := List.mem_of_getElem? hx
  have htk : xs.take (j + 1) = xs.take j ++ [x] := by rw [List.take_add_one, hx]; rfl
  refine ⟨wipe_again, ?_⟩
  refine htt x _ _ hm (SqL.upd_new hS nC) ?_
  cases hp : p x with
  | true =>
    change te ((wipe σ [i]).set i (some x)) _ _
    refine hte x _ _ hm (SqL.upd_new hS nC) hp ⟨_, upd_same, ?_, ?_⟩
    · have h1 : ((xs.take j).filter p).length ≤ (xs.take j).length := List.length_filter_le _ _
      rw [List.length_take] at h1
      rw [List.length_map]
      exact small1000 (by omega)
    · rw [upd_upd, htk, List.filter_append, List.map_append, List.filter_cons_of_pos hp]
      rfl
  | false =>
    change upd H1 C _ = upd H1 C _
    rw [htk, List.filter_append, List.filter_cons_of_neg (by rw [hp]; exact Bool.false_ne_true)]
    simp
theorem cut_to (xs : List V) (k : Nat) : cutV xs none (some (k : Int)) = xs.take k := by
  unfold cutV
  rw [HT.sIx_none, HT.sIx_nat]
  rw [List.drop_zero, Nat.sub_zero, ← List.take_eq_take_min]
theorem filter_all {α : Type} (l : List α) : l.filter (fun _ => true) = l := by simp
def iAbs : V → V
  | .int i => .int (if i < 0 then -i else i)
  | v => v
def iBig : V → Bool
  | .int i => decide ((10 : Int) ^ 18 ≤ i)
  | _ => false

abbrev sLawBegin : Stmt := topS 55
theorem scLawBegin : FnScope ["script", "items", "item"] ["script"] (defScope sLawBegin) := ⟨rfl, rfl, rfl, by decide +kernel, rfl, by decide +kernel, by decide +kernel⟩
def spBegin (K : PySem.W.Frag) : Sp := fun vs H Q _ => ∃ (a : Addr) (ns : List Int), vs = [.ref a] ∧ SqL K H a (ns.map V.int) ∧ ns.length ≤ 63 ∧ ∀ (D : Dr) (H' : Hp), Kp [] H H' → H D.d = none → H D.l = none → H D.it = none → DrAt D 1000000000 H' → Q (.ref D.d) H'
section
variable {P : Program} {w : World} {K : PySem.W.Frag} {mg : Str → Option Value} {base : Heap}
theorem ok_begin (DLawBegin : Fn K mg "_law_begin" sLawBegin ["script"]) (b_abs : mg "abs" = none) : FnOk P w K mg base CX0 1 DLawBegin.f DLawBegin.fd ["script"] (spBegin K) := by
  refine DLawBegin.F.ok scLawBegin (fun vs H Q E h => ?_) (fun cdv A outer s H vs Q E hr h => ?_)
  · obtain ⟨a, ns, rfl, _⟩ := h
    rfl
  obtain ⟨a, ns, rfl, hS, h63, q⟩ := h
  refine ⟨_, pss_cons (ps_setLc (i := 1) (own := [("item", 2)]) (g := gName 2) (tt := tYes) (by rfl) scLawBegin.nd rfl rfl (sw_true rfl rfl rfl (by decide +kernel)) (piListE K (pe_slice (sllE K) (pv 0) po_none (po_some pe_int))) (blkOk_by (N := ["script", "items", "item"]) (sc := defScope sLawBegin) (by decide +kernel)) (fun _ _ _ _ _ => (pg_name (i := 2) scLawBegin.nd rfl (.inl rfl))) (fun _ _ _ _ _ => pts_nil) (fun _ _ _ _ _ => (pe_callB call_abs (by rfl) b_abs (by decide +kernel) (pa_cons (pv 2) pa_nil))))
      (pss_one (ps_ret (pe_disp (pps_cons pe_str (pe_lc (own := [("item", 2)]) (g := gName 2) (by rfl) scLawBegin.nd (piListE K (pv 1)) (blkOk_by (N := ["script", "items", "item"]) (sc := defScope sLawBegin) (by decide +kernel)) (fun _ _ _ _ _ => (pg_name (i := 2) scLawBegin.nd rfl (.inl rfl))) (fun _ _ _ _ _ => (pts_one (pt_cmpR op_ge (pv 2) (pe_op op_pow pe_int pe_int) (nomark _)))) (fun _ _ _ _ _ => (pv 2))) (pps_cons pe_str (pv 1) (pps_cons pe_str pe_int (pps_cons pe_str pe_int pps_nil)))) (by rfl) (by rfl) (fun z => by cases z) (by decide)))), ?_⟩
  refine ⟨_, rfl, 63, rfl, a, _, rfl, hS, fun p hp => ?_⟩
  rw [show (some (63 : Int)) = some ((63 : Nat) : Int) from rfl, cut_to, List.take_of_length_le (by rw [List.length_map]; exact h63)]
  have k1 : Kp [] H (upd H p (.lst (ns.map V.int))) := Kp.laid hp
  have e1 : SqL K (upd H p (.lst (ns.map V.int))) p (ns.map V.int) := SqL.of upd_same
  generalize upd H p (.lst (ns.map V.int)) = H1 at k1 e1 ⊢
  refine ⟨p, rfl, ⟨_, e1⟩, fun C nC => ?_⟩
  refine lc_pureL (fun _ => true) iAbs e1 nC (by rw [List.length_map]; omega) (fun x H2 Q2 _ _ q2 => q2) (fun x H2 Q2 hx _ _ q2 => ?_) ?_
  · obtain ⟨z, hz, rfl⟩ := List.mem_map.mp hx
    exact ⟨_, rfl, z, rfl, q2⟩
  rw [filter_all]
  have eA : (ns.map V.int).map iAbs = (ns.map fun i => if i < 0 then -i else i).map V.int := by rw [List.map_map, List.map_map]; rfl
  rw [eA]
  generalize hms : (ns.map fun i => if i < 0 then -i else i) = ms
  have ml : ms.length = ns.length := by rw [← hms, List.length_map]
  have mp : ∀ x ∈ ms, 0 ≤ x := fun x hx => by
    rw [← hms] at hx
    obtain ⟨z, _, rfl⟩ := List.mem_map.mp hx
    split <;> omega
  have k2 : Kp [] H1 (upd H1 C (.lst (ms.map V.int))) := Kp.laid nC
  have e2 : upd H1 C (.lst (ms.map V.int)) C = some (.lst (ms.map V.int)) := upd_same
  generalize upd H1 C (.lst (ms.map V.int)) = H2 at k2 e2 ⊢
  -- the dict
  refine fun d nd => ?_
  have k3 : Kp [] H2 (upd H2 d (.dK [])) := Kp.laid nd
  have e3 : upd H2 d (.dK []) d = some (.dK []) := upd_same
  generalize upd H2 d (.dK []) = H3 at k3 e3 ⊢
  have e2' := k3 _ _ (by simp) e2
  refine ⟨_, rfl, C, rfl, ⟨_, SqL.of e2'⟩, fun L nL => ?_⟩
  refine lc_pureL iBig id (SqL.of e2') nL (by rw [List.length_map]; omega) (fun x H4 Q4 hx _ q4 => ?_) (fun x H4 Q4 hx _ _ q4 => ⟨_, rfl, q4⟩) ?_
  · obtain ⟨z, hz, rfl⟩ := List.mem_map.mp hx
    refine ⟨_, rfl, 10, 18, rfl, rfl, ⟨by decide, by decide, by decide⟩, z, _, rfl, rfl, _, rfl, ?_⟩
    exact q4
  have eB : ((ms.map V.int).filter iBig).map id = (ms.filter fun i => decide ((10 : Int) ^ 18 ≤ i)).map V.int := by
    rw [List.map_id, List.filter_map]
    rfl
  rw [eB]
  generalize hbs : (ms.filter fun i => decide ((10 : Int) ^ 18 ≤ i)) = bs
  have bp : ∀ x ∈ bs, 0 ≤ x := fun x hx => by
    rw [← hbs] at hx
    exact mp x (List.mem_filter.mp hx).1
  have nLd : L ≠ d := fun z => by rw [z, e3] at nL; cases nL
  have nLC : L ≠ C := fun z => by rw [z, e2'] at nL; cases nL
  have nCd : C ≠ d := fun z => by rw [z, nd] at e2; cases e2
  have e3' : (upd H3 L (.lst (bs.map V.int))) d = some (.dK []) := by rw [upd_ne nLd.symm]; exact e3
  refine ⟨_, rfl, e3', [(kLarge, .ref L), (kItems, .ref C), (kLeft, .int 0), (kTurn, .int 0)], rfl, by show 4 ≤ 15; decide, ?_⟩
  have em : mergeK [] [(kLarge, V.ref L), (kItems, V.ref C), (kLeft, V.int 0), (kTurn, V.int 0)] = drV ⟨d, L, C⟩ 0 0 := by
    obtain ⟨h1, h2, h3, h4, h5, h6⟩ := ne_lk
    simp [mergeK, putK, drV, h1, h2, h3, h4, h5, h6]
  rw [em]
  have none0 : ∀ b, H2 b = none → H b = none := fun b hb => by
    cases e : H b with
    | none => rfl
    | some o => rw [k2 _ _ (by simp) (k1 _ _ (by simp) e)] at hb; cases hb
  refine q ⟨d, L, C⟩ _ ?_ (none0 d nd) (none0 L ?_) ?_ ⟨nLC.symm, bs, ms, 0, 0, upd_same, by rw [upd_ne nLd]; exact upd_same, by rw [upd_ne nCd, upd_ne nLC.symm]; exact e2', ⟨Int.le_refl 0, Int.le_refl 0, by decide⟩, bp, mp⟩
  · intro b o _ e
    have h2 := k2 _ _ (by simp) (k1 _ _ (by simp) e)
    have bd : b ≠ d := ne_of_none h2 nd
    have bL : b ≠ L := ne_of_none (k3 _ _ (by simp) h2) nL
    rw [upd_ne bd, upd_ne bL]
    exact k3 _ _ (by simp) h2
  · cases e : H2 L with
    | none => rfl
    | some o => rw [k3 _ _ (by simp) e] at nL; cases nL
  · cases e : H C with
    | none => rfl
    | some o => rw [k1 _ _ (by simp) e] at nC; cases nC
end
end NV
/-! SetG -/
set_option Elab.async false
set_option linter.all false
set_option maxRecDepth 100000
set_option maxHeartbeats 600000
/-! sets whose members are of any kind of key, with what their walk needs -/
namespace NV
open PySem PySem.Spec PyProof.Rows L2
section
variable {P : Program} {w : World} {κ : Type} [DecidableEq κ] (knd : PySem.KeyKind P w κ) (key : Value → κ)
/-- key reads a member off a value -/
def KeyFn : Prop := ∀ k v, knd.is k v = true → key v = k
def mem (es : Array (Int × Value)) : List κ := es.toList.map fun e => key e.2
/-- the set at a: S its members, n their number -/
def SetG (h : Heap) (a : Addr) (S : κ → Bool) (n : Nat) : Prop :=
  ∃ o es ep t, (h.get? a = some o ∧ o.ExactSet ∧ o.data = .set es ep t) ∧ (ElemsOf knd es.toList ∧ (mem key es).Nodup ∧ ∀ k, S k = true ↔ k ∈ mem key es) ∧
    (es.size < scanBound ∧ t.fits es.size = true ∧ es.size = n) ∧ Ris t.place.toList ∧ (w.params.followText "set-order" = true ∨ t.led = true)
end
section
variable {P : Program} {w : World} {κ : Type} [DecidableEq κ] {knd : PySem.KeyKind P w κ} {key : Value → κ} {h h' : Heap} {a : Addr} {S : κ → Bool} {n : Nat}
theorem SetG.move (R : SetG knd key h a S n) (k : ∀ o, h.get? a = some o → h'.get? a = some o) : SetG knd key h' a S n :=
  let ⟨o, es, ep, t, ⟨ho, r1⟩, r2⟩ := R
  ⟨o, es, ep, t, ⟨k o ho, r1⟩, r2⟩
theorem SetG.sameS {S' : κ → Bool} (R : SetG knd key h a S n) (e : ∀ k, S' k = S k) : SetG knd key h a S' n := by
  rw [show S' = S from funext e]
  exact R
theorem is_iff (hk : KeyFn knd key) {l : List (Int × Value)} (g : ElemsOf knd l) {e : Int × Value} (he : e ∈ l) (k : κ) : knd.is k e.2 = true ↔ key e.2 = k := by
  obtain ⟨⟨k0, h0, _⟩, _⟩ := g e he
  constructor
  · exact hk k e.2
  · intro q
    rw [hk k0 e.2 h0] at q
    rw [← q]
    exact h0
theorem mem_iff (hk : KeyFn knd key) {es : Array (Int × Value)} (g : ElemsOf knd es.toList) (k : κ) : k ∈ mem key es ↔ ∃ e ∈ es.toList, knd.is k e.2 = true := by
  unfold mem
  rw [List.mem_map]
  exact ⟨fun ⟨e, he, q⟩ => ⟨e, he, (is_iff hk g he k).mpr q⟩, fun ⟨e, he, q⟩ => ⟨e, he, (is_iff hk g he k).mp q⟩⟩
theorem SetG.plain (hk : KeyFn knd key) (R : SetG knd key h a S n) : h.SetOf knd a S n :=
  let ⟨o, es, ep, t, ⟨ho, hx, hd⟩, ⟨g, _, hm⟩, ⟨hb, hf, hn⟩, _⟩ := R
  ⟨o, es, ep, t, ho, hx, hd, g, fun k => (hm k).trans (mem_iff hk g k), hb, hf, hn⟩
/-- the empty set just laid -/
theorem SetG.start {o : Obj} (ho : h.get? a = some o) (e : o = { cls := .type "set", dict := none, data := .set #[] 0 (.fresh 0 0 (!w.params.followText "set-order")) }) : SetG knd key h a (fun _ => false) 0 := by
  subst e
  refine ⟨_, #[], 0, _, ⟨ho, ⟨rfl, rfl, rfl⟩, rfl⟩, ⟨fun e he => by simp at he, by simp [mem], fun k => by simp [mem]⟩, ⟨by decide, by rfl, rfl⟩, List.Pairwise.nil, ?_⟩
  cases hq : w.params.followText "set-order"
  · exact .inr rfl
  · exact .inl rfl
end
section
variable {P : Program} {w : World} {κ : Type} [DecidableEq κ] {knd : PySem.KeyKind P w κ} {key : Value → κ} {A : Around} {E : Value → Shared → Prop} {s : Shared} {a : Addr} {S : κ → Bool} {n : Nat}
/-- what is stored, once the member has its place; the table may be laid anew -/
theorem setG_tail {g : Bool → Sem Unit} (hg : ∀ b, ∃ r : Bool, g b = if r then rule "set.scan.the-table-gave-way" else pure ()) {o : Obj} {es es1 : Array (Int × Value)} {ep : Nat} {t t2 : SetTable} {S' : κ → Bool} {wd : Bool} {R : Option Bool → Shared → Prop}
    (ho : s.heap.get? a = some o) (hx : o.ExactSet) (hd : o.data = .set es ep t) (g1 : ElemsOf knd es1.toList) (nd : (mem key es1).Nodup) (hm : ∀ k, S' k = true ↔ k ∈ mem key es1)
    (hb : es1.size < scanBound) (hf : t2.fits es1.size = true) (hr : Ris t2.place.toList) (hl : w.params.followText "set-order" = true ∨ t2.led = true)
    (hR : ∀ h', Heap.SameBut a s.heap h' → SetG knd key h' a S' es1.size → R (some true) { s with heap := h' }) :
    wpAny (model P w) A (do
        storeSet a es1 t2
        if (!wd && t2.tooFull) = true then do
            g (relayAll t2 es1 (SetTable.grown es1.size)).2.2
            storeSet a (relayAll t2 es1 (SetTable.grown es1.size)).1 (relayAll t2 es1 (SetTable.grown es1.size)).2.1
            pure (some true)
          else pure (some true)) R E s := by
  have go : ∀ b {s₁ : Shared} {Q : Unit → Shared → Prop}, Q () s₁ → wpAny (model P w) A (g b) Q E s₁ := fun b s₁ Q q => by
    obtain ⟨r, e⟩ := hg b
    rw [e]
    cases r
    · exact wpAny_pure q
    · exact wpAny_rule q
  have first := store_at (es' := es1) (t' := t2) ho hd
  have same1 := Heap.SameBut.update s.heap a (Obj.putSet es1 t2)
  refine wpAny_bind (wpAny_storeSet_of ho hd ?_ (fits_of_scanBound hb))
  by_cases c : (!wd && t2.tooFull) = true
  · rw [if_pos c]
    have pm := relayAll_perm t2 es1 (SetTable.grown es1.size)
    have hf3 := relayAll_fits t2 es1 (SetTable.grown es1.size)
    have hr3 := relayAll_ris t2 es1 (SetTable.grown es1.size)
    have hl3 := relayAll_led t2 es1 (SetTable.grown es1.size)
    generalize relayAll t2 es1 (SetTable.grown es1.size) = Z at pm hf3 hr3 hl3 ⊢
    obtain ⟨es2, t3, gave⟩ := Z
    dsimp only at pm hf3 hr3 hl3 ⊢
    have hz : es2.size = es1.size := by
      have q := pm.length_eq
      simpa using q
    have hb2 : es2.size < scanBound := by rw [hz]; exact hb
    have pk : (mem key es2).Perm (mem key es1) := List.Perm.map (fun e : Int × Value => key e.2) pm
    have led3 : w.params.followText "set-order" = true ∨ t3.led = true := by rw [hl3]; exact hl
    refine wpAny_bind (go _ (wpAny_bind (wpAny_storeSet_of first rfl (wpAny_pure (hR _ (same1.trans (Heap.SameBut.update _ a _)) ?_)) (fits_of_scanBound hb2))))
    have last := store_at (es' := es2) (t' := t3) first rfl
    exact ⟨_, es2, _, t3, ⟨last, hx, rfl⟩, ⟨g1.perm pm, pk.nodup_iff.mpr nd, fun k => (hm k).trans pk.mem_iff.symm⟩, ⟨hb2, hf3, hz⟩, hr3, led3⟩
  · rw [if_neg c]
    exact wpAny_pure (hR _ same1 ⟨_, _, _, _, ⟨first, hx, rfl⟩, ⟨g1, nd, hm⟩, ⟨hb, hf, rfl⟩, hr, hl⟩)
theorem setG_add_hashed (hk : KeyFn knd key) {k : κ} {x : Value} {Q : Bool → Shared → Prop} (hx : knd.is k x = true) (hsc : x.scannable = true) (R : SetG knd key s.heap a S n) (room : n + 1 < scanBound)
    (hQ : ∀ h', Heap.SameBut a s.heap h' → SetG knd key h' a (fun j => S j || decide (j = k)) (if S k = true then n else n + 1) → Q (!S k) { s with heap := h' }) :
    wpAny (model P w) A (setAddHashed a x (knd.hash k)) Q E s := by
  obtain ⟨o, es, ep, t, ⟨ho, hex, hd⟩, ⟨g, nd, hm⟩, ⟨hb, hf, hn⟩, hr, hl⟩ := R
  unfold setAddHashed setAddHashedIn
  refine wpAny_holding (wpAny_bind (wpAny_setState_of ho hd hf ?_))
  dsimp only
  rw [byScan_of hsc hb g]
  simp only [↓reduceIte]
  unfold setAddByScan
  refine wpAny_bind (wpAny_bind (wpAny_rule (wpAny_bind (wpAny_setScan_of hx ho hd hf g ?_))))
  cases hfi : es.toList.findIdx? (fun e => knd.is k e.2) with
  | some j =>
    obtain ⟨hj, pj, _⟩ := List.findIdx?_eq_some_iff_getElem.mp hfi
    have there : S k = true := (hm k).mpr ((mem_iff hk g k).mpr ⟨_, List.getElem_mem hj, pj⟩)
    have q := hQ s.heap (Heap.SameBut.refl a s.heap) ⟨o, es, ep, t, ⟨ho, hex, hd⟩, ⟨g, nd, fun i => ?_⟩, ⟨hb, hf, by rw [if_pos there]; exact hn⟩, hr, hl⟩
    · rw [there] at q
      exact wpAny_pure (wpAny_pure q)
    · rw [← hm i, Bool.or_eq_true, decide_eq_true_eq]
      refine ⟨fun z => z.elim id fun e => ?_, Or.inl⟩
      rw [e]; exact there
  | none =>
    have hnk : k ∉ mem key es := fun z => by
      obtain ⟨e, he, q⟩ := (mem_iff hk g k).mp z
      have c := List.findIdx?_eq_none_iff.mp hfi e he
      rw [q] at c
      cases c
    have gone : S k = false := Bool.eq_false_iff.mpr fun q => hnk ((hm k).mp q)
    dsimp only
    have pm := layNew_perm t es (knd.hash k) x
    have hf1 := layNew_fits t es (knd.hash k) x
    have hr1 := layNew_ris t es (knd.hash k) x hr
    have hl1 := layNew_led t es (knd.hash k) x
    generalize layNew t es (knd.hash k) x = Z at pm hf1 hr1 hl1 ⊢
    obtain ⟨es1, t1, wd, gave⟩ := Z
    dsimp only at pm hf1 hr1 hl1 ⊢
    rw [Array.toList_push] at pm
    have g1 : ElemsOf knd es1.toList := (g.push hx hsc).perm pm
    have pk : (mem key es1).Perm (k :: mem key es) := by
      have q := (pm.trans (List.perm_append_singleton _ _)).map fun e : Int × Value => key e.2
      rw [List.map_cons] at q
      rw [hk k x hx] at q
      exact q
    have nd1 : (mem key es1).Nodup := pk.nodup_iff.mpr (List.nodup_cons.mpr ⟨hnk, nd⟩)
    have m1 : ∀ i, (S i || decide (i = k)) = true ↔ i ∈ mem key es1 := fun i => by
      rw [pk.mem_iff, List.mem_cons, ← hm i, Bool.or_eq_true, decide_eq_true_eq]
      exact Or.comm
    have hz : es1.size = n + 1 := by
      have q := pm.length_eq
      simp only [List.length_append, List.length_singleton, Array.length_toList] at q
      omega
    have hb1 : es1.size < scanBound := by rw [hz]; exact room
    have hled : w.params.followText "set-order" = true ∨ t1.led = true := by
      rw [hl1]; exact hl
    have fin : ∀ h', Heap.SameBut a s.heap h' → SetG knd key h' a (fun j => S j || decide (j = k)) es1.size → Q true { s with heap := h' } := fun h' sb r => by
      rw [hz] at r
      have q := hQ h' sb (by rw [gone]; exact r)
      rw [gone] at q
      exact q
    have way : ∀ b : Bool, ∃ r : Bool, (match b with | true => rule "set.scan.the-table-gave-way" | false => pure () : Sem Unit) = if r then rule "set.scan.the-table-gave-way" else pure () := fun b => ⟨b, by cases b <;> rfl⟩
    refine wpAny_bind ?_
    have hgw : ∀ (b : Bool) {s₁ : Shared} {Q' : Unit → Shared → Prop}, Q' () s₁ → wpAny (model P w) A (match b with | true => rule "set.scan.the-table-gave-way" | false => pure ()) Q' E s₁ := fun b s₁ Q' q => by
      cases b
      · exact wpAny_pure q
      · exact wpAny_rule q
    refine hgw _ ?_
    split
    · refine wpAny_bind ?_
      rw [hashByValue_scannable 8 hsc]
      refine wpAny_pure (setG_tail way ho hex hd g1 nd1 m1 hb1 ?_ ?_ ?_ fun h' sb r => wpAny_pure (fin h' sb r))
      · first | exact hf1 | (split <;> first | exact hf1 | exact SetTable.fits_plain_off hf1)
      · first | exact hr1 | (split <;> exact hr1)
      · first | exact hled | (split <;> exact hled)
    · refine wpAny_bind (wpAny_pure ?_)
      simp only [↓reduceIte]
      exact setG_tail way ho hex hd g1 nd1 m1 hb1 hf1 hr1 hled fun h' sb r => wpAny_pure (fin h' sb r)
end
end NV
/-! SetG2 -/
set_option Elab.async false
set_option linter.all false
set_option maxRecDepth 100000
set_option maxHeartbeats 3200000
/-! set(xs) of a list or a tuple of keys; sorted of a set of texts -/
namespace NV
open PySem PySem.Spec PyProof.Rows L2
abbrev blank (w : World) : Obj := { cls := .type "set", dict := none, data := .set #[] 0 (.fresh 0 0 (!w.params.followText "set-order")) }
section
variable {P : Program} {w : World} {κ : Type} [DecidableEq κ] {knd : PySem.KeyKind P w κ} {key : Value → κ} {A : Around} {E : Value → Shared → Prop} {s : Shared}
/-- the items go into the set one by one -/
theorem fill (hk : KeyFn knd key) {I : Addr} {fp wr : List Addr} {G : Array GenState → Array GenState → Prop} {n : Nat} {Pv : Nat → Value → Prop} {St : Nat → Shared → Prop} {R : Result → Shared → Prop}
    (W : WalksS P w A.in1 I fp wr G n Pv St) (S : Addr) (hSf : S ∉ fp) (ks : List κ) (hn : n = ks.length) (hb : ks.length + 1 < scanBound) (hval : ∀ i v, Pv i v → ∃ k, ks[i]? = some k ∧ knd.is k v = true ∧ v.scannable = true)
    (hR : ∀ s0 s' c, Moved (S :: wr) G s0 s' → s0 = s → c ≤ n → SetG knd key s'.heap S (fun j => decide (j ∈ ks)) c → R (.ok (.ret .none)) s') :
    ∀ (m i : Nat) (s1 : Shared), n - i = m → i ≤ n → St i s1 → (i = 0 ∧ s1 = s ∨ Moved (S :: wr) G s s1) → (∃ c, c ≤ i ∧ SetG knd key s1.heap S (fun j => decide (j ∈ ks.take i)) c) →
      codeAny (model P w) A (.builtin "set.update.loop" ⟨[.ref S, .ref I], []⟩) R s1 := by
  have hSw : S ∉ wr := fun h => hSf (W.sub _ h)
  have up : ∀ b ∈ wr, b ∈ S :: wr := fun b hb => List.mem_cons_of_mem _ hb
  have after : ∀ {i : Nat} {s1 s2 : Shared}, (i = 0 ∧ s1 = s ∨ Moved (S :: wr) G s s1) → Moved (S :: wr) G s1 s2 → Moved (S :: wr) G s s2 := fun h hm => by
    rcases h with ⟨_, rfl⟩ | h
    · exact hm
    · exact h.trans W.gtrans hm
  intro m
  induction m with
  | zero =>
    intro i s1 hm hi hst hmv ⟨c, hc, hS⟩
    have hin : i = n := by omega
    subst hin
    refine codeAny_builtin F.entry_set_update_loop ?_
    rw [Around.under_plainId F.plain_set_update_loop _]
    refine wpAny_bind (m := pyNext (.ref I)) (W.done s1 _ _ hst fun s2 hm2 => ?_)
    have et : ks.take i = ks := List.take_of_length_le (Nat.le_of_eq hn.symm)
    rw [et] at hS
    exact wpAny_pure (hR s s2 c (after hmv (hm2.mono up)) rfl hc (hS.move fun o e => hm2.heap S o hSw e))
  | succ m ih =>
    intro i s1 hm hi hst hmv ⟨c, hc, hS⟩
    have hlt : i < n := by omega
    refine codeAny_builtin F.entry_set_update_loop ?_
    rw [Around.under_plainId F.plain_set_update_loop _]
    refine wpAny_bind (m := pyNext (.ref I)) (W.item i s1 _ _ hlt hst fun v s2 hP hst2 hm2 => ?_)
    obtain ⟨k, hk1, hk2, hk3⟩ := hval i v hP
    have hS2 : SetG knd key s2.heap S (fun j => decide (j ∈ ks.take i)) c := hS.move fun o e => hm2.heap S o hSw e
    refine wpAny_bind (m := holding [v] (setAdd S v)) (wpAny_holding ?_)
    unfold setAdd
    refine wpAny_holding (wpAny_bind (knd.pyHash hk2 ?_))
    refine setG_add_hashed (s := { s2 with toks := s2.toks + 1 }) hk hk2 hk3 hS2 (by omega) fun h3 hsb hS3 => ?_
    have hS4 : SetG knd key h3 S (fun j => decide (j ∈ ks.take (i + 1))) (if decide (k ∈ ks.take i) = true then c else c + 1) := hS3.sameS fun j => by
      rw [List.take_add_one, hk1]
      simp [List.mem_append]
    have hle : (if decide (k ∈ ks.take i) = true then c else c + 1) ≤ i + 1 := by split <;> omega
    have oth : ∀ b o, b ≠ S → s2.heap.get? b = some o → h3.get? b = some o := fun b o hb e => (hsb.2 b hb).trans e
    refine wpAny_pure ⟨plainId_quiet F.plain_set_update_loop _, ih (i + 1) _ (by omega) hlt (W.frame _ s2 _ _ hst2 (Nat.le_succ _) fun b hb o e => oth b o (fun z => hSf (by rw [← z]; exact hb)) e) (.inr (after hmv ((hm2.mono up).then_heap (Nat.le_succ _) fun b o hb e => ?_))) ⟨_, hle, hS4⟩⟩
    exact oth b o (fun z => hb (by rw [z]; exact List.mem_cons_self)) e
end
end NV
/-! SetG3 -/
set_option Elab.async false
set_option linter.all false
set_option maxRecDepth 100000
set_option maxHeartbeats 3200000
namespace NV
open PySem PySem.Spec PyProof.Rows L2
section
variable {P : Program} {w : World} {κ : Type} [DecidableEq κ] {knd : PySem.KeyKind P w κ} {key : Value → κ} {A : Around} {E : Value → Shared → Prop} {s : Shared}

theorem call_set_Tuple (hk : KeyFn knd key) {l : Addr} {items : Array Value} (ks : List κ) {Q : Value → Shared → Prop} (hh : A.handled = none) (hl : s.heap.IsTuple l items) (hz : items.size = ks.length)
    (hval : ∀ (i : Nat) (v : Value), items[i]? = some v → ∃ k, ks[i]? = some k ∧ knd.is k v = true ∧ v.scannable = true) (hb : ks.length + 1 < scanBound)
    (h : ∀ (h' : Heap) (tk c : Nat), SetG knd key h' s.heap.objs.size (fun j => decide (j ∈ ks)) c → (∀ b o, s.heap.get? b = some o → h'.get? b = some o) → Q (.ref s.heap.objs.size) { s with heap := h', toks := tk }) :
    wpAny (model P w) A (call (.type "set") [.ref l]) Q E s := by
  obtain ⟨c0, tl, hmro⟩ := F.called_set.mro
  have hmade := F.called_set.made
  have hsub := F.called_set.sub
  refine wpAny_call (codeAny_of_tree ?_)
  show wpAny _ _ (callAny (.type "set") _) _ _ _
  refine wpAny_pure ⟨Code.quiet_builtin _ (by decide +kernel), codeAny_builtin F.entry_type_call ?_⟩
  rw [Around.under_plain (weight_type_call_type "set" [.ref l] []) rfl]
  have h1 := F.called_set.notType
  have h2 := F.called_set.canCreate
  have hct := F.typeCall_set_1 (.ref l)
  repeat (any_goals (first | assumption | wp_step))
  generalize hn0 : ({ s with heap := s.heap.push (blank w) } : Shared) = s0
  have e0 : s0.heap = s.heap.push (blank w) := by rw [← hn0]
  refine codeAny_mono (code_set_led1 (.ref l) (E := E) (Q₁ := fun obj s₁ => obj = .ref s.heap.objs.size ∧ s₁ = s0) ⟨rfl, hn0⟩) fun r s₁ hr => ?_
  match r, hr with
  | .error e, hr => exact hr
  | .ok .next, hr => exact hr.elim
  | .ok .brk, hr => exact hr.elim
  | .ok .cont, hr => exact hr.elim
  | .ok (.ret obj), hr =>
    obtain ⟨rfl, rfl⟩ := hr
    have hS : s₁.heap.get? s.heap.objs.size = some (blank w) := by rw [e0]; exact Heap.get?_push_size _ rfl
    have hT : Shared.TypeIs s₁ (.ref s.heap.objs.size) "set" := ⟨_, hS, rfl⟩
    have hli := F.called_set.init.lookup
    have hbi := F.called_set.init.bind (.ref s.heap.objs.size)
    repeat (any_goals (first | assumption | wp_step))
    refine codeAny_mono (codeAny_call_builtin (R := wants (fun r s₂ => r = .none ∧ ∃ h' tk c, s₂ = { s with heap := h', toks := tk } ∧ SetG knd key h' s.heap.objs.size (fun j => decide (j ∈ ks)) c ∧
        (∀ b o, s.heap.get? b = some o → h'.get? b = some o)) E) F.called_set.init.plain F.entry_set_init (check_set_init_1 hT ?_)) fun r₂ s₂ hr₂ => ?_
    · have hl1 : s₁.heap.IsTuple l items := by rw [e0]; exact hl.push _
      have hlS : l < s.heap.objs.size := let ⟨_, ho, _⟩ := hl; Heap.lt_size ho
      have hsz : s₁.heap.objs.size = s.heap.objs.size + 1 := by rw [e0]; exact Heap.size_push ..
      obtain ⟨ol, hol, hcl, hrest⟩ := id hl1
      have hsls := F.sub_tuple_set
      have hslf := F.sub_tuple_frozenset
      have hne : (Value.type "tuple" == Value.type "dict") = false := by decide
      have hty : s₁.TypeIs (.ref l) "tuple" := hl1.typeIs
      unfold Builtin.«set.__init__» noKeywords Builtin.Frozenset.updateFrom
      generalize hPI : pyIter = PI
      wp_walk
      subst hPI
      refine wpAny_pyIter_tuple hl1 (wpAny_bind (wpAny_runValue ?_))
      generalize hn2 : ({ s₁ with heap := s₁.heap.push { cls := .type "tuple_iterator", data := .fields #[.ref l, .int 0 0] } } : Shared) = s3
      have e3 : s3.heap = s₁.heap.push { cls := .type "tuple_iterator", data := .fields #[.ref l, .int 0 0] } := by rw [← hn2]
      have k01 : ∀ b o, s.heap.get? b = some o → s₁.heap.get? b = some o := fun b o e => by rw [e0]; exact Heap.get?_push_of_some _ e
      have k13 : ∀ b o, s₁.heap.get? b = some o → s3.heap.get? b = some o := fun b o e => by rw [e3]; exact Heap.get?_push_of_some _ e
      have hneI : l ≠ s₁.heap.objs.size := fun z => by rw [z, hsz] at hlS; exact absurd hlS (Nat.not_lt.mpr (Nat.le_succ _))
      have hSf : s.heap.objs.size ∉ [s₁.heap.objs.size, l] := fun z => by
        rcases List.mem_cons.mp z with z | z
        · exact absurd (z.trans hsz) (Nat.ne_of_lt (Nat.lt_succ_self _))
        · rw [List.mem_singleton.mp z] at hlS
          exact Nat.lt_irrefl _ hlS
      have W := Walks.tuple (prog := P) (w := w) (A := A.in1.in1.in1) (by simp [hh]) s₁.heap.objs.size l hneI items
      refine fill (s := s3) hk W.toS s.heap.objs.size hSf ks hz hb hval (fun sx s' c' hm ex hcn hS' => ?_) (items.size - 0) 0 s3 rfl (Nat.zero_le _) ⟨⟨_, by rw [e3]; exact Heap.get?_push_size _ rfl, rfl, rfl⟩, by rw [e3]; exact hl1.push _⟩ (.inl ⟨rfl, rfl⟩) ⟨0, Nat.le_refl 0, SetG.sameS (SetG.start (k13 _ _ hS) rfl) fun k => by simp⟩
      subst ex
      obtain ⟨h', g2, d', tk', os'⟩ := s'
      have eg : g2 = s.gens := by
        have q := hm.gens
        rw [← hn2, ← hn0] at q
        exact q
      have ed : d' = s.drawn := by
        have q := hm.drawn
        rw [← hn2, ← hn0] at q
        exact q
      have eo : os' = s.os := by
        have q := hm.os
        rw [← hn2, ← hn0] at q
        exact q
      subst eg; subst ed; subst eo
      refine wpAny_pure ?_
      show wpAny _ _ (ret Value.none) _ _ _
      refine wpAny_pure ⟨rfl, h', tk', c', rfl, hS', fun b o e => ?_⟩
      have hb0 : b < s.heap.objs.size := Heap.lt_size e
      refine hm.heap b o (fun z => ?_) (k13 b o (k01 b o e))
      rcases List.mem_cons.mp z with z | z
      · exact Nat.ne_of_lt hb0 z
      · rw [List.mem_singleton.mp z, hsz] at hb0
        exact absurd hb0 (Nat.not_lt.mpr (Nat.le_succ _))
    · match r₂, hr₂ with
      | .error e, hr₂ => exact hr₂
      | .ok .next, hr₂ => exact hr₂.elim
      | .ok .brk, hr₂ => exact hr₂.elim
      | .ok .cont, hr₂ => exact hr₂.elim
      | .ok (.ret r), hr₂ =>
        obtain ⟨rfl, h', tk, c', rfl, hS', hk'⟩ := hr₂
        repeat (any_goals (first | assumption | wp_step))
        exact h _ _ _ hS' hk'
end
end NV
/-! SetG3L -/
set_option Elab.async false
set_option linter.all false
set_option maxRecDepth 100000
set_option maxHeartbeats 3200000
namespace NV
open PySem PySem.Spec PyProof.Rows L2
section
variable {P : Program} {w : World} {κ : Type} [DecidableEq κ] {knd : PySem.KeyKind P w κ} {key : Value → κ} {A : Around} {E : Value → Shared → Prop} {s : Shared}

theorem call_set_List (hk : KeyFn knd key) {l : Addr} {items : Array Value} (ks : List κ) {Q : Value → Shared → Prop} (hh : A.handled = none) (hl : s.heap.IsList l items) (hz : items.size = ks.length)
    (hval : ∀ (i : Nat) (v : Value), items[i]? = some v → ∃ k, ks[i]? = some k ∧ knd.is k v = true ∧ v.scannable = true) (hb : ks.length + 1 < scanBound)
    (h : ∀ (h' : Heap) (tk c : Nat), SetG knd key h' s.heap.objs.size (fun j => decide (j ∈ ks)) c → (∀ b o, s.heap.get? b = some o → h'.get? b = some o) → Q (.ref s.heap.objs.size) { s with heap := h', toks := tk }) :
    wpAny (model P w) A (call (.type "set") [.ref l]) Q E s := by
  obtain ⟨c0, tl, hmro⟩ := F.called_set.mro
  have hmade := F.called_set.made
  have hsub := F.called_set.sub
  refine wpAny_call (codeAny_of_tree ?_)
  show wpAny _ _ (callAny (.type "set") _) _ _ _
  refine wpAny_pure ⟨Code.quiet_builtin _ (by decide +kernel), codeAny_builtin F.entry_type_call ?_⟩
  rw [Around.under_plain (weight_type_call_type "set" [.ref l] []) rfl]
  have h1 := F.called_set.notType
  have h2 := F.called_set.canCreate
  have hct := F.typeCall_set_1 (.ref l)
  repeat (any_goals (first | assumption | wp_step))
  generalize hn0 : ({ s with heap := s.heap.push (blank w) } : Shared) = s0
  have e0 : s0.heap = s.heap.push (blank w) := by rw [← hn0]
  refine codeAny_mono (code_set_led1 (.ref l) (E := E) (Q₁ := fun obj s₁ => obj = .ref s.heap.objs.size ∧ s₁ = s0) ⟨rfl, hn0⟩) fun r s₁ hr => ?_
  match r, hr with
  | .error e, hr => exact hr
  | .ok .next, hr => exact hr.elim
  | .ok .brk, hr => exact hr.elim
  | .ok .cont, hr => exact hr.elim
  | .ok (.ret obj), hr =>
    obtain ⟨rfl, rfl⟩ := hr
    have hS : s₁.heap.get? s.heap.objs.size = some (blank w) := by rw [e0]; exact Heap.get?_push_size _ rfl
    have hT : Shared.TypeIs s₁ (.ref s.heap.objs.size) "set" := ⟨_, hS, rfl⟩
    have hli := F.called_set.init.lookup
    have hbi := F.called_set.init.bind (.ref s.heap.objs.size)
    repeat (any_goals (first | assumption | wp_step))
    refine codeAny_mono (codeAny_call_builtin (R := wants (fun r s₂ => r = .none ∧ ∃ h' tk c, s₂ = { s with heap := h', toks := tk } ∧ SetG knd key h' s.heap.objs.size (fun j => decide (j ∈ ks)) c ∧
        (∀ b o, s.heap.get? b = some o → h'.get? b = some o)) E) F.called_set.init.plain F.entry_set_init (check_set_init_1 hT ?_)) fun r₂ s₂ hr₂ => ?_
    · have hl1 : s₁.heap.IsList l items := by rw [e0]; exact hl.push _
      have hlS : l < s.heap.objs.size := let ⟨_, ho, _⟩ := hl; Heap.lt_size ho
      have hsz : s₁.heap.objs.size = s.heap.objs.size + 1 := by rw [e0]; exact Heap.size_push ..
      obtain ⟨ol, hol, hcl, hrest⟩ := id hl1
      have hsls := F.sub_list_set
      have hslf := F.sub_list_frozenset
      have hne : (Value.type "list" == Value.type "dict") = false := by decide
      have hty : s₁.TypeIs (.ref l) "list" := hl1.typeIs
      unfold Builtin.«set.__init__» noKeywords Builtin.Frozenset.updateFrom
      generalize hPI : pyIter = PI
      wp_walk
      subst hPI
      refine wpAny_pyIter_list hl1 (wpAny_bind (wpAny_runValue ?_))
      generalize hn2 : ({ s₁ with heap := s₁.heap.push { cls := .type "list_iterator", data := .fields #[.ref l, .int 0 0] } } : Shared) = s3
      have e3 : s3.heap = s₁.heap.push { cls := .type "list_iterator", data := .fields #[.ref l, .int 0 0] } := by rw [← hn2]
      have k01 : ∀ b o, s.heap.get? b = some o → s₁.heap.get? b = some o := fun b o e => by rw [e0]; exact Heap.get?_push_of_some _ e
      have k13 : ∀ b o, s₁.heap.get? b = some o → s3.heap.get? b = some o := fun b o e => by rw [e3]; exact Heap.get?_push_of_some _ e
      have hneI : l ≠ s₁.heap.objs.size := fun z => by rw [z, hsz] at hlS; exact absurd hlS (Nat.not_lt.mpr (Nat.le_succ _))
      have hSf : s.heap.objs.size ∉ [s₁.heap.objs.size, l] := fun z => by
        rcases List.mem_cons.mp z with z | z
        · exact absurd (z.trans hsz) (Nat.ne_of_lt (Nat.lt_succ_self _))
        · rw [List.mem_singleton.mp z] at hlS
          exact Nat.lt_irrefl _ hlS
      have W := Walks.list (prog := P) (w := w) (A := A.in1.in1.in1) (by simp [hh]) s₁.heap.objs.size l hneI items
      refine fill (s := s3) hk W.toS s.heap.objs.size hSf ks hz hb hval (fun sx s' c' hm ex hcn hS' => ?_) (items.size - 0) 0 s3 rfl (Nat.zero_le _) ⟨⟨_, by rw [e3]; exact Heap.get?_push_size _ rfl, rfl, rfl⟩, by rw [e3]; exact hl1.push _⟩ (.inl ⟨rfl, rfl⟩) ⟨0, Nat.le_refl 0, SetG.sameS (SetG.start (k13 _ _ hS) rfl) fun k => by simp⟩
      subst ex
      obtain ⟨h', g2, d', tk', os'⟩ := s'
      have eg : g2 = s.gens := by
        have q := hm.gens
        rw [← hn2, ← hn0] at q
        exact q
      have ed : d' = s.drawn := by
        have q := hm.drawn
        rw [← hn2, ← hn0] at q
        exact q
      have eo : os' = s.os := by
        have q := hm.os
        rw [← hn2, ← hn0] at q
        exact q
      subst eg; subst ed; subst eo
      refine wpAny_pure ?_
      show wpAny _ _ (ret Value.none) _ _ _
      refine wpAny_pure ⟨rfl, h', tk', c', rfl, hS', fun b o e => ?_⟩
      have hb0 : b < s.heap.objs.size := Heap.lt_size e
      refine hm.heap b o (fun z => ?_) (k13 b o (k01 b o e))
      rcases List.mem_cons.mp z with z | z
      · exact Nat.ne_of_lt hb0 z
      · rw [List.mem_singleton.mp z, hsz] at hb0
        exact absurd hb0 (Nat.not_lt.mpr (Nat.le_succ _))
    · match r₂, hr₂ with
      | .error e, hr₂ => exact hr₂
      | .ok .next, hr₂ => exact hr₂.elim
      | .ok .brk, hr₂ => exact hr₂.elim
      | .ok .cont, hr₂ => exact hr₂.elim
      | .ok (.ret r), hr₂ =>
        obtain ⟨rfl, h', tk, c', rfl, hS', hk'⟩ := hr₂
        repeat (any_goals (first | assumption | wp_step))
        exact h _ _ _ hS' hk'
end
end NV
/-! SetG4 -/
set_option Elab.async false
set_option linter.all false
set_option maxRecDepth 100000
set_option maxHeartbeats 600000
/-! sets of texts: made of a sequence, len, sorted -/
namespace NV
open PySem PySem.Spec PyProof.Rows L2
def tKey : Value → Str
  | .str z _ => z
  | _ => ""
section
variable {P : Program} {w : World}
theorem tKey_ok : KeyFn (PySem.strKind P w) tKey := fun k v h => by
  obtain ⟨t, rfl⟩ := Value.isStrOf_shape h
  rfl
def SetT (P : Program) (w : World) (a : Addr) (S : Str → Bool) (n : Nat) : HO := .ext fun h => SetG (PySem.strKind P w) tKey h a S n
theorem setT_new {H : Hp} {h : Heap} {a : Addr} {S : Str → Bool} {n : Nat} (R : SetG (PySem.strKind P w) tKey h a S n) : ObjOk P w H h a (SetT P w a S n) := by
  have ⟨o, _, _, _, ⟨ho, _⟩, _⟩ := R
  exact ⟨R, ⟨o, ho⟩, fun h1 h2 p k => SetG.move p k⟩
end
/-! ### sizes -/
theorem few_of {m : List Str} : ∀ {z : List Str}, m.Nodup → (∀ k ∈ m, k ∈ z) → m.length ≤ z.length ∧ (m.length = z.length → z.Nodup)
  | [], _, h => by
    cases m with
    | nil => exact ⟨Nat.le_refl _, fun _ => .nil⟩
    | cons x m => exact absurd (h x List.mem_cons_self) (by simp)
  | x :: t, hd, h => by
    have h1 : (m.erase x).Nodup := hd.sublist List.erase_sublist
    have h2 : ∀ k ∈ m.erase x, k ∈ t := fun k hk => by
      rcases List.mem_cons.mp (h k (List.mem_of_mem_erase hk)) with z | z
      · rw [z] at hk
        exact absurd hk hd.not_mem_erase
      · exact z
    obtain ⟨a, b⟩ := few_of h1 h2
    have hl : m.length ≤ (m.erase x).length + 1 := by
      rw [List.length_erase]
      split <;> omega
    refine ⟨by rw [List.length_cons]; omega, fun e => ?_⟩
    rw [List.length_cons] at e
    by_cases hx : x ∈ t
    · have h3 : ∀ k ∈ m, k ∈ t := fun k hk => by
        rcases List.mem_cons.mp (h k hk) with z | z
        · rw [z]; exact hx
        · exact z
      have := (few_of hd h3).1
      omega
    · exact List.nodup_cons.mpr ⟨hx, b (by omega)⟩
theorem same_size {m z : List Str} (hm : m.Nodup) (hz : z.Nodup) (h : ∀ k, k ∈ m ↔ k ∈ z) : m.length = z.length :=
  Nat.le_antisymm (few_of hm fun k hk => (h k).mp hk).1 (few_of hz fun k hk => (h k).mpr hk).1
section
variable {P : Program} {w : World}
theorem setG_size {h : Heap} {a : Addr} {zs : List Str} {n : Nat} (R : SetG (PySem.strKind P w) tKey h a (fun j => decide (j ∈ zs)) n) : n ≤ zs.length ∧ (n = zs.length ↔ zs.Nodup) := by
  obtain ⟨o, es, ep, t, _, ⟨_, nd, hm⟩, ⟨_, _, hn⟩, _⟩ := R
  have hl : (mem tKey es).length = n := by unfold mem; rw [List.length_map, Array.length_toList]; exact hn
  have hm' : ∀ k, k ∈ mem tKey es ↔ k ∈ zs := fun k => by rw [← hm k, decide_eq_true_eq]
  obtain ⟨h1, h2⟩ := few_of nd fun k hk => (hm' k).mp hk
  rw [hl] at h1 h2
  exact ⟨h1, h2, fun z => by rw [← hl]; exact same_size nd z hm'⟩
end
section
variable {P : Program} {w : World} {A : Around} {E : Value → Shared → Prop} {s : Shared} {a : Addr}
theorem sorted_setG {S : Str → Bool} {n : Nat} {Q : Value → Shared → Prop} (R : SetG (PySem.strKind P w) tKey s.heap a S n) (hh : A.handled = none) (h64 : n < 64)
    (hQ : ∀ s' p (out : Array Value) (c : Nat) (zs : List Str), (∀ b o, s.heap.get? b = some o → s'.heap.get? b = some o) → s'.gens = s.gens → s'.os = s.os → s.heap.objs.size ≤ p →
      s'.heap.get? p = some (seqObj "list" out c) → StrsAre out.toList zs → Asc zs → (∀ k, k ∈ zs ↔ S k = true) → zs.length = n → Q (.ref p) s') :
    wpAny (model P w) A (call (.builtin "sorted") [.ref a]) Q E s := by
  obtain ⟨o, es, ep, t, ⟨ho, hex, hd⟩, ⟨g, nd, hm⟩, ⟨hb, hf, hn⟩, hr, hl⟩ := R
  refine Calls.call_function_entry kind_sorted plain_sorted entry_sorted (args_sorted1 _) ?_
  unfold Builtin.«sorted»
  refine wpAny_bind (m := checkCount "sorted" 1 1 _) (wpAny_pure ?_)
  refine wpAny_bind (collect_set (A := A.in1) hh ⟨o, ho, hex.1, hd⟩ hf hb hr hl fun s1 vs k1 hz g1 o1 pm => ?_)
  have hvl : vs.length = n := by rw [pm.length_eq, List.length_map, Array.length_toList]; exact hn
  have hI : StrsAre vs (vs.map tKey) := by
    have : ∀ l : List Value, (∀ v ∈ l, ∃ k u, v = Value.str k u) → StrsAre l (l.map tKey) := by
      intro l
      induction l with
      | nil => exact fun _ => .nil
      | cons v l ih =>
        intro h
        obtain ⟨k, u, rfl⟩ := h v List.mem_cons_self
        exact .cons k u (ih fun x hx => h x (List.mem_cons_of_mem _ hx))
    refine this vs fun v hv => ?_
    obtain ⟨e, he, q⟩ := List.mem_map.mp (pm.mem_iff.mp hv)
    obtain ⟨⟨k, hk, _⟩, _⟩ := g e he
    obtain ⟨u, hu⟩ := Value.isStrOf_shape hk
    exact ⟨k, u, by rw [← q]; exact hu⟩
  have pk : (vs.map tKey).Perm (mem tKey es) := by
    have q := pm.map tKey
    rw [List.map_map] at q
    exact q
  refine wpAny_bind (wpAny_newList ?_ (by rw [hvl, sizeLine_eq]; omega))
  have hoL : (s1.heap.push (seqObj "list" vs.toArray 0)).get? s1.heap.objs.size = some (seqObj "list" vs.toArray 0) := Heap.get?_push_size _ rfl
  refine wpAny_bind (wpAny_holding (wpAny_call_entry slot_list_sort ⟨_, hoL, rfl⟩ entry_list_sort (list_sort_treeK strKind_oneLt hoL hI.keysOf (fun v₁ v₂ rest e => keyKind_strs (by rw [← e]; exact hI)) (by rw [hvl]; exact h64) fun st' hp hs => ⟨_, rfl, ?_⟩) (args_list_sort _)))
  obtain ⟨zs, a1, a2, a3⟩ := sorted_out_str hI hp hs
  obtain ⟨c, hc⟩ := sortedHeap_at (vs := vs) (out := (arrOf st').map (·.2)) hoL
  have pn : zs.Perm (mem tKey es) := a2.trans pk
  refine wpAny_pure ⟨_, rfl, hQ _ s1.heap.objs.size _ c zs (fun b u e => ?_) g1 o1 hz hc a1 (sorted_asc a3 (pn.nodup_iff.mpr nd)) (fun k => by rw [pn.mem_iff, ← hm k]) ?_⟩
  · have q := k1 b u e
    have hlt := Heap.lt_size q
    show (sortedHeap (s1.heap.push (seqObj "list" vs.toArray 0)) s1.heap.objs.size vs _).get? b = some u
    rw [sortedHeap_old (Nat.ne_of_lt hlt) (by rw [size_push']; exact Nat.lt_succ_of_lt hlt)]
    exact Heap.get?_push_of_some _ q
  · rw [pn.length_eq]
    show (es.toList.map _).length = n
    rw [List.length_map, Array.length_toList]; exact hn
end
section
variable {X : Cx}
theorem setT_get {pins : List (Addr × Obj)} {σ : L2.St} {H : Hp} {s : Shared} {a : Addr} {S : Str → Bool} {n : Nat} (I : Inv X pins σ H s) (ha : H a = some (SetT X.prog X.w a S n)) : SetG (PySem.strKind X.prog X.w) tKey s.heap a S n := (I.hok a _ ha).1
/-- set(xs), xs a list or a tuple of texts -/
def rSetTx (K : PySem.W.Frag) (P : Program) (w : World) : List V → Hp → VK → Prop := fun xs H Q => ∃ (l : Addr) (zs : List Str), xs = [.ref l] ∧ (SqL K H l (zs.map V.str) ∨ SqT K H l (zs.map V.str)) ∧ zs.length < 1000 ∧
  ∀ (a : Addr) (n : Nat), n ≤ zs.length → (n = zs.length ↔ zs.Nodup) → H a = none → Q (.ref a) (upd H a (SetT P w a (fun j => decide (j ∈ zs)) n))
theorem strs_at {its : List Value} {zs : List Str} (rv : StrsAre its zs) : its.toArray.size = zs.length ∧ ∀ (i : Nat) (v : Value), its.toArray[i]? = some v → ∃ k, zs[i]? = some k ∧ Value.isStrOf k v = true ∧ v.scannable = true := by
  have hl := rv.len_eq
  refine ⟨by simpa using hl, fun i v hv => ?_⟩
  have hv' : its[i]? = some v := by simpa using hv
  have hi : i < zs.length := by rw [← hl]; exact (List.getElem?_eq_some_iff.mp hv').1
  obtain ⟨t, ht⟩ := rv.at (List.getElem?_eq_getElem hi)
  rw [hv'] at ht
  cases ht
  exact ⟨_, List.getElem?_eq_getElem hi, by show (zs[i] == zs[i]) = true; exact beq_self_eq_true _, rfl⟩
theorem cr_setTx (hc : X.calm = true) : CallR X (.type "set") (rSetTx X.K X.prog X.w) := by
  intro pins s σ H xs us Q I r h
  obtain ⟨l, zs, rfl, hs, hz, q⟩ := h
  rw [Vals.ref1 r]
  have hb : zs.length + 1 < scanBound := by unfold scanBound; omega
  rcases hs with hs | hs
  · obtain ⟨its, rv, pl, _⟩ := I.list hs
    obtain ⟨e1, e2⟩ := strs_at rv.strs
    refine call_set_List (knd := PySem.strKind X.prog X.w) (key := tKey) tKey_ok zs (I.ok.hd hc) pl.isList e1 e2 hb fun h' tk c R k => ?_
    obtain ⟨n1, n2⟩ := setG_size R
    exact ⟨.ref s.heap.objs.size, upd H s.heap.objs.size (SetT X.prog X.w s.heap.objs.size (fun j => decide (j ∈ zs)) c), I.laid (t' := tk) k (Nat.le_refl _) (setT_new R), rfl, q _ c n1 n2 (I.hok.fresh (Nat.le_refl _))⟩
  · obtain ⟨its, rv, pl, _⟩ := I.tuple hs
    obtain ⟨e1, e2⟩ := strs_at rv.strs
    refine call_set_Tuple (knd := PySem.strKind X.prog X.w) (key := tKey) tKey_ok zs (I.ok.hd hc) pl e1 e2 hb fun h' tk c R k => ?_
    obtain ⟨n1, n2⟩ := setG_size R
    exact ⟨.ref s.heap.objs.size, upd H s.heap.objs.size (SetT X.prog X.w s.heap.objs.size (fun j => decide (j ∈ zs)) c), I.laid (t' := tk) k (Nat.le_refl _) (setT_new R), rfl, q _ c n1 n2 (I.hok.fresh (Nat.le_refl _))⟩
/-- len(found) -/
def rLenTx (P : Program) (w : World) : List V → Hp → VK → Prop := fun xs H Q => ∃ (a : Addr) (S : Str → Bool) (n : Nat), xs = [.ref a] ∧ H a = some (SetT P w a S n) ∧ Q (.int n) H
theorem cr_lenTx : CallR X (.builtin "len") (rLenTx X.prog X.w) := by
  intro pins s σ H xs us Q I r h
  obtain ⟨a, S, n, rfl, ha, q⟩ := h
  rw [Vals.ref1 r]
  obtain ⟨o, es, ep, t, ⟨ho, hex, hd⟩, _, ⟨hb, hf, hn⟩, _⟩ := setT_get I ha
  have hb' : es.size < 4096 := Nat.lt_of_lt_of_le hb (by unfold scanBound; decide)
  subst hn
  exact PySem.call_len_set ho hex hd hf (by omega) ⟨.int _, H, I.tok _, ⟨_, rfl⟩, q⟩
/-- sorted(found), fewer than 64 -/
def rSortedTx (P : Program) (w : World) : List V → Hp → VK → Prop := fun vs H Q => ∃ (a : Addr) (S : Str → Bool) (n : Nat), vs = [V.ref a] ∧ H a = some (SetT P w a S n) ∧ n < 64 ∧
  ∀ (zs : List Str) (p : Addr), Asc zs → (∀ k, k ∈ zs ↔ S k = true) → zs.length = n → H p = none → Q (.ref p) (upd H p (.lst (zs.map V.str)))
theorem cr_sortedTx (hc : X.calm = true) : CallR X (.builtin "sorted") (rSortedTx X.prog X.w) := by
  intro pins s σ H vs us Q I r h
  obtain ⟨a, S, n, rfl, ha, h64, q⟩ := h
  have R := setT_get I ha
  rw [Vals.ref1 r]
  refine sorted_setG R (I.ok.hd hc) h64 fun s' p out c zs k g o hp hg hi hs hm hl => ?_
  have hlen : (zs.map V.str).length ≤ sizeLine := by rw [List.length_map, hl, sizeLine_eq]; omega
  have hn : H p = none := I.hok.fresh hp
  have J : Inv X pins σ (upd H p (.lst (zs.map V.str))) { s with heap := s'.heap, gens := s'.gens, drawn := s'.drawn, toks := s'.toks } :=
    I.call (ch := []) (Un.laid k hp hn) (I.hok.laid k hp ⟨hlen, out.toList, c, vals_of_strs hi, hg⟩) (by rw [g]; exact I.bare) (fun _ z => nomatch z)
  have e : s' = { s with heap := s'.heap, gens := s'.gens, drawn := s'.drawn, toks := s'.toks } := by
    cases s'
    cases s
    cases o
    rfl
  rw [e]
  exact ⟨.ref p, _, J, rfl, q zs p hs hm hl hn⟩
theorem setTxE (K : PySem.W.Frag) (P : Program) (w : World) (hc : X.calm = true) (hK : X.K = K := by rfl) (hP : X.prog = P := by rfl) (hw : X.w = w := by rfl) : CallR X (.type "set") (rSetTx K P w) := by
  subst hK; subst hP; subst hw; exact cr_setTx hc
theorem lenTxE (P : Program) (w : World) (hP : X.prog = P := by rfl) (hw : X.w = w := by rfl) : CallR X (.builtin "len") (rLenTx P w) := by
  subst hP; subst hw; exact cr_lenTx
theorem sortedTxE (P : Program) (w : World) (hc : X.calm = true) (hP : X.prog = P := by rfl) (hw : X.w = w := by rfl) : CallR X (.builtin "sorted") (rSortedTx P w) := by
  subst hP; subst hw; exact cr_sortedTx hc
end
end NV
/-! G1 -/
set_option Elab.async false
set_option linter.all false
set_option maxRecDepth 100000
set_option maxHeartbeats 400000
namespace NV
open PySem PySem.Spec PyProof.Rows L2
open C8 (pss_cut)
/-! ### what data are -/
def tyN : PyData → String
  | .none => "NoneType"
  | .bool _ => "bool"
  | .int _ => "int"
  | .str _ => "str"
  | .list _ => "list"
  | .tuple _ => "tuple"
  | .dict _ => "dict"
theorem rp_ty {K : PySem.W.Frag} {ex : List Addr} {H : Hp} : ∀ {d : PyData} {v : V}, Rp ex H d v → TyX K H v (.type (tyN d))
  | .none, _, h => by
    subst h
    exact .base .non
  | .bool b, _, h => by
    subst h
    exact .base (.bl b)
  | .int i, _, h => by
    subst h
    exact .base (.int i)
  | .str z, _, h => by
    subst h
    exact .base (.str z)
  | .list ds, _, ⟨a, xs, e, _, h1, _⟩ => by
    subst e
    exact .base (.lst h1)
  | .tuple ds, _, ⟨a, xs, e, _, h1, _⟩ => by
    subst e
    exact .base (.tup h1)
  | .dict kvs, _, ⟨_, a, e, _, h1⟩ => by
    subst e
    exact .base (.dK h1)
/-- isinstance of data -/
def isD (T : String) (d : PyData) : Bool := tyN d == T || (T == "int" && tyN d == "bool")
def isTys : List String := ["str", "int", "bool", "list", "tuple"]
theorem kit_isD : ∀ T ∈ isTys, ∀ d : PyData, kitB (tyN d) T = some (isD T d) := by
  have h : ∀ T ∈ isTys, ∀ t ∈ ["NoneType", "bool", "int", "str", "list", "tuple", "dict"], kitB t T = some (t == T || (T == "int" && t == "bool")) := by decide +kernel
  intro T hT d
  refine h T hT (tyN d) ?_
  cases d <;> simp [tyN]
def rIsD (T : String) : List V → Hp → VK → Prop := fun xs H Q => ∃ (v : V) (d : PyData) (ex : List Addr), xs = [v, .ty T] ∧ Rp ex H d v ∧ Q (.bl (isD T d)) H
theorem cr_isD {X : Cx} {T : String} (hT : T ∈ isTys) : CallR X (.builtin "isinstance") (rIsD T) := by
  intro pins s σ H xs us Q I r h
  obtain ⟨v, d, ex, rfl, hd, q⟩ := h
  exact call_isi pins s σ H _ us Q I r ⟨v, .ty T, _, _, isD T d, rfl, .ty T, rp_ty hd, kit_ty (kit_isD T hT d), q⟩
def rIsD2 (T U : String) : List V → Hp → VK → Prop := fun xs H Q => ∃ (v : V) (d : PyData) (ex : List Addr) (tp : Addr), xs = [v, .ref tp] ∧ H tp = some (.tup [.ty T, .ty U]) ∧ Rp ex H d v ∧ Q (.bl (isD T d || isD U d)) H
theorem cr_isD2 {X : Cx} {T U : String} (hT : T ∈ isTys) (hU : U ∈ isTys) : CallR X (.builtin "isinstance") (rIsD2 T U) := by
  intro pins s σ H xs us Q I r h
  obtain ⟨v, d, ex, tp, rfl, ht, hd, q⟩ := h
  refine call_isiT pins s σ H _ us Q I r ⟨v, tp, _, _, _, isD T d || isD U d, rfl, ht, .cons (.ty T) (.cons (.ty U) .nil), rp_ty hd, ?_, q⟩
  refine kitAny_cons (kit_ty (kit_isD T hT d)) (fun e => ?_) (fun e => by rw [e]; rfl)
  rw [e, Bool.false_or]
  exact kitAny_cons (kit_ty (kit_isD U hU d)) (fun e => by rw [e]; rfl) (fun e => e)
/-- a word of 1 to most signs, of any data -/
def wordD (most : Nat) (digits : Bool) : PyData → Bool
  | .str z => wordB most digits z
  | _ => false
theorem str_of_isD {d : PyData} (h : isD "str" d = true) : ∃ z, d = .str z := by
  cases d with
  | str z => exact ⟨z, rfl⟩
  | _ => exact absurd (show (_ : Bool) = true from h) (by simp [isD, tyN])
theorem wordD_no {d : PyData} {m : Nat} {b : Bool} (h : isD "str" d = false) : wordD m b d = false := by
  cases d with
  | str z => exact absurd h (by simp [isD, tyN])
  | _ => rfl
def digS (b : Bool) : Str := if b then "0123456789" else ""
theorem sign_in (b : Bool) (c : Nat) : decide (c ∈ (("abcdefghijklmnopqrstuvwxyz" : Str) ++ digS b).cps.toList) = isSign b c := by
  have h1 : (("abcdefghijklmnopqrstuvwxyz" : Str) ++ digS true).cps.toList = [97, 98, 99, 100, 101, 102, 103, 104, 105, 106, 107, 108, 109, 110, 111, 112, 113, 114, 115, 116, 117, 118, 119, 120, 121, 122, 48, 49, 50, 51, 52, 53, 54, 55, 56, 57] := by decide +kernel
  have h2 : (("abcdefghijklmnopqrstuvwxyz" : Str) ++ digS false).cps.toList = [97, 98, 99, 100, 101, 102, 103, 104, 105, 106, 107, 108, 109, 110, 111, 112, 113, 114, 115, 116, 117, 118, 119, 120, 121, 122] := by decide +kernel
  have e : ∀ {p q : Prop} [Decidable p] [Decidable q], (p ↔ q) → decide p = decide q := fun h => by simp [h]
  unfold isSign
  cases b with
  | true =>
    rw [h1, show ((decide (97 ≤ c) && decide (c ≤ 122)) || (true && (decide (48 ≤ c) && decide (c ≤ 57)))) = decide ((97 ≤ c ∧ c ≤ 122) ∨ (48 ≤ c ∧ c ≤ 57)) by simp]
    refine e ?_
    simp only [List.mem_cons, List.not_mem_nil, or_false]
    omega
  | false =>
    rw [h2, show ((decide (97 ≤ c) && decide (c ≤ 122)) || (false && (decide (48 ≤ c) && decide (c ≤ 57)))) = decide (97 ≤ c ∧ c ≤ 122) by simp]
    refine e ?_
    simp only [List.mem_cons, List.not_mem_nil, or_false]
    omega
/-- a comprehension over a text whose test and element change nothing -/
theorem lc_sign {tt : TT} {te : TE} {i : Nat} {σ : L2.St} {C : Addr} {z : Str} {H1 : Hp} {Qd : Hp → Prop} (p : Nat → Bool) (hz : z.cps.size < 1000)
    (htt : ∀ (c : Nat) (H : Hp) (Q : Bool → Hp → Prop), Q (p c) H → tt ((wipe σ [i]).set i (some (.str ⟨#[c]⟩))) H Q)
    (hte : ∀ (c : Nat) (H : Hp) (Q : V → Hp → Prop), Q (.str ⟨#[c]⟩) H → te ((wipe σ [i]).set i (some (.str ⟨#[c]⟩))) H Q) (hd : Qd (upd H1 C (.lst ((z.cps.toList.filter p).map fun c => V.str ⟨#[c]⟩)))) :
    ∃ W : Nat → Nat → Hp → Prop, (∃ m, W 0 m (upd H1 C (.lst []))) ∧ ∀ i' m H, W i' m H →
      ((Its z).stop i' H ∧ Qd H) ∨ ((Its z).go i' H ∧ ∃ Nx : Hp → Prop, (∀ H', Nx H' → ∃ m', m' < m ∧ W (i' + 1) m' H') ∧ ∀ x H', (Its z).yld i' H x H' → gName i x (wipe σ [i]) H' fun σ2 H2 => wipe σ2 [i] = wipe σ [i] ∧ tt σ2 H2 fun b H3 =>
        if b = true then te σ2 H3 fun y H4 => ∃ acc, H4 C = some (.lst acc) ∧ acc.length < sizeLine ∧ Nx (upd H4 C (.lst (acc ++ [y]))) else Nx H3) := by
  have hn : z.cps.toList.length = z.cps.size := Array.length_toList
  refine ⟨fun i' m H => m = z.cps.size - i' ∧ i' ≤ z.cps.size ∧ H = upd H1 C (.lst (((z.cps.toList.take i').filter p).map fun c => V.str ⟨#[c]⟩)), ⟨z.cps.size, by simp, Nat.zero_le _, rfl⟩, ?_⟩
  rintro i' m H ⟨rfl, hi, rfl⟩
  by_cases hlt : i' < z.cps.size
  · refine .inr ⟨hlt, fun H' => H' = upd H1 C (.lst (((z.cps.toList.take (i' + 1)).filter p).map fun c => V.str ⟨#[c]⟩)), fun H' e => ⟨z.cps.size - (i' + 1), by omega, rfl, hlt, e⟩, ?_⟩
    rintro x H' ⟨rfl, c, hc, rfl⟩
    have hc' : z.cps.toList[i']? = some c := by rw [Array.getElem?_toList]; exact hc
    have htk : z.cps.toList.take (i' + 1) = z.cps.toList.take i' ++ [c] := by rw [List.take_add_one, hc']; rfl
    refine ⟨wipe_again, htt c _ _ ?_⟩
    cases hp : p c with
    | true =>
      refine iteT (hte c _ _ ⟨_, upd_same, ?_, ?_⟩)
      · have h1 : ((z.cps.toList.take i').filter p).length ≤ (z.cps.toList.take i').length := List.length_filter_le _ _
        rw [List.length_take] at h1
        rw [List.length_map]
        exact small1000 (by omega)
      · rw [upd_upd, htk, List.filter_append, List.map_append, List.filter_cons_of_pos hp]
        rfl
    | false =>
      refine iteF ?_
      rw [htk, List.filter_append, List.filter_cons_of_neg (by rw [hp]; exact Bool.false_ne_true)]
      simp
  · have e : i' = z.cps.size := by omega
    subst e
    refine .inl ⟨Nat.le_refl _, ?_⟩
    rw [← hn, List.take_length]
    exact hd
theorem strOk_one {z : Str} {c : Nat} (h : PyData.strOk z = true) (hc : c ∈ z.cps.toList) : PyData.strOk ⟨#[c]⟩ = true := by
  unfold PyData.strOk at h ⊢
  rw [Array.all_eq_true_iff_forall_mem] at h
  have := h c (by simpa using hc)
  simpa using this
/-! ### lists of texts, compared -/
theorem dpAll_strs {K : PySem.W.Frag} {H : Hp} : ∀ zs : List Str, DpAll K H (zs.map V.str) (zs.map PyData.str)
  | [] => .nil
  | z :: zs => .cons (.str z) (dpAll_strs zs)
theorem lay_strs : ∀ zs : List Str, (∀ z ∈ zs, PyData.strOk z = true) → PyData.canLayAll0 (zs.map PyData.str) = true
  | [], _ => by simp [PyData.canLayAll0]
  | z :: zs, h => by
    have := lay_strs zs fun y hy => h y (List.mem_cons_of_mem _ hy)
    simp [PyData.canLayAll0, PyData.canLay0, this, h z List.mem_cons_self]
theorem depth_strs : ∀ zs : List Str, PyData.depthAll (zs.map PyData.str) = 0
  | [] => by simp [PyData.depthAll]
  | z :: zs => by
    have := depth_strs zs
    simp [PyData.depthAll, PyData.depth, this]
theorem shaped_strs (zs : List Str) (h : ∀ z ∈ zs, PyData.strOk z = true) : SeqAt.shaped (.list (zs.map PyData.str)) = true := by
  unfold SeqAt.shaped
  simp [PyData.canLay0, PyData.depth, lay_strs zs h, depth_strs]
theorem eqv_strs : ∀ zs ys : List Str, PyData.eqv (.list (zs.map PyData.str)) (.list (ys.map PyData.str)) = decide (zs = ys)
  | [], [] => by simp [PyData.eqv, PyData.eqvAll]
  | [], y :: ys => by simp [PyData.eqv, PyData.eqvAll]
  | z :: zs, [] => by simp [PyData.eqv, PyData.eqvAll]
  | z :: zs, y :: ys => by
    have := eqv_strs zs ys
    simp only [PyData.eqv] at this
    simp only [List.map_cons, PyData.eqv, PyData.eqvAll, this]
    by_cases h : z = y
    · simp [h]
    · simp [h]
theorem eq_strs {K : PySem.W.Frag} {H : Hp} {a b : Addr} {zs ys : List Str} {Q : VK} (ha : SqL K H a (zs.map V.str)) (hb : SqL K H b (ys.map V.str)) (oz : ∀ z ∈ zs, PyData.strOk z = true) (oy : ∀ z ∈ ys, PyData.strOk z = true) (q : Q (.bl (decide (zs = ys))) H) : rEqD K (.ref a) (.ref b) H Q := by
  refine ⟨_, _, .lst ha (dpAll_strs zs), .lst hb (dpAll_strs ys), shaped_strs zs oz, shaped_strs ys oy, ?_⟩
  rw [eqv_strs]
  exact q
end NV
/-! L2a -/
set_option Elab.async false
set_option linter.all false
set_option maxRecDepth 100000
set_option maxHeartbeats 400000
namespace NV
open PySem PySem.Spec PyProof.Rows L2
open C8 (pss_cut)
def rNeNil (K : PySem.W.Frag) : R2 := fun x y H Q => ∃ (a b : Addr) (xs : List V), x = .ref a ∧ y = .ref b ∧ SqL K H a xs ∧ SqL K H b [] ∧ Q (.bl (!xs.isEmpty)) H
theorem op_neNil {X : Cx} (K : PySem.W.Frag) (hu : X.A.units + 64 < cLine) (hK : X.K = K := by rfl) : OpR X (compareOp .NotEq) (rNeNil K) := by
  subst hK
  intro pins s σ H x y v u Q I rx ry h
  obtain ⟨a, b, xs, rfl, rfl, ha, hb, q⟩ := h
  cases xs with
  | nil => exact op_neD hu pins s σ H _ _ v u Q I rx ry ⟨.list [], .list [], .lst ha .nil, .lst hb .nil, by decide, by decide, q⟩
  | cons z zs =>
    obtain rfl : v = Value.ref a := rx
    obtain rfl : u = Value.ref b := ry
    obtain ⟨its, rv, pl, _⟩ := I.list ha
    obtain ⟨its2, rv2, pl2, _⟩ := I.list hb
    cases rv2
    have hsz : (its.toArray.size != ([] : List Value).toArray.size) = true := by
      have := rv.length
      simp at this
      simp
      intro e
      rw [e] at this
      simp at this
    exact SeqAt.RcNeAt.lists_lengths pl.isList pl2.isList hsz (by omega) _ _ _ _ ⟨.bl true, H, I, rfl, q⟩
/-! ### comprehensions whose test and element lay things -/
theorem lc_growT {K : PySem.W.Frag} {tt : TT} {te : TE} {i : Nat} {σ : L2.St} {C a : Addr} {xs : List V} {H1 : Hp} {Qd : Hp → Prop} (p : Nat → Bool) (f : Nat → V) (hS : SqT K H1 a xs) (nC : H1 C = none) (hz : xs.length < 1000)
    (htt : ∀ (j : Nat) (x : V) (H : Hp) (Q : Bool → Hp → Prop), xs[j]? = some x → Kp [C] H1 H → (∀ H', Kp [] H H' → Q (p j) H') → tt ((wipe σ [i]).set i (some x)) H Q)
    (hte : ∀ (j : Nat) (x : V) (H : Hp) (Q : V → Hp → Prop), xs[j]? = some x → p j = true → Kp [C] H1 H → (∀ H', Kp [] H H' → Q (f j) H') → te ((wipe σ [i]).set i (some x)) H Q)
    (hd : ∀ H', Kp [C] H1 H' → H' C = some (.lst (((List.range xs.length).filter p).map f)) → Qd H') :
    ∃ W : Nat → Nat → Hp → Prop, (∃ m, W 0 m (upd H1 C (.lst []))) ∧ ∀ i' m H, W i' m H →
      ((Itt K a).stop i' H ∧ Qd H) ∨ ((Itt K a).go i' H ∧ ∃ Nx : Hp → Prop, (∀ H', Nx H' → ∃ m', m' < m ∧ W (i' + 1) m' H') ∧ ∀ x H', (Itt K a).yld i' H x H' → gName i x (wipe σ [i]) H' fun σ2 H2 => wipe σ2 [i] = wipe σ [i] ∧ tt σ2 H2 fun b H3 =>
        if b = true then te σ2 H3 fun y H4 => ∃ acc, H4 C = some (.lst acc) ∧ acc.length < sizeLine ∧ Nx (upd H4 C (.lst (acc ++ [y]))) else Nx H3) := by
  have aC : a ≠ C ∨ True := .inr trivial
  have sq : ∀ {H : Hp}, Kp [C] H1 H → SqT K H a xs := fun {H} k => by
    by_cases e : a = C
    · subst e
      rcases hS with (h | ⟨o, h⟩) | h
      · rw [nC] at h; cases h
      · rw [nC] at h; cases h
      · exact .inr h
    · exact Kp.seqT k (by simpa using e) hS
  refine lc_tup (K := K) (a := a) (xs := xs) (fun j H' => Kp [C] H1 H' ∧ H' C = some (.lst (((List.range j).filter p).map f))) ⟨Kp.laid nC, upd_same⟩ (fun j H' _ e => sq e.1) (fun j x H' hx e => ?_) (fun H' e => hd H' e.1 e.2)
  obtain ⟨k1, e1⟩ := e
  have hj : j < xs.length := (List.getElem?_eq_some_iff.mp hx).1
  refine ⟨wipe_again, htt j x _ _ hx k1 fun H2 k2 => ?_⟩
  have e2 := k2 _ _ (by simp) e1
  have k12 : Kp [C] H1 H2 := k1.trans (k2.mono (by simp))
  cases hp : p j with
  | true =>
    refine iteT (hte j x _ _ hx hp k12 fun H3 k3 => ⟨_, k3 _ _ (by simp) e2, ?_, ?_⟩)
    · have h1 : ((List.range j).filter p).length ≤ (List.range j).length := List.length_filter_le _ _
      rw [List.length_range] at h1
      rw [List.length_map]
      exact small1000 (by omega)
    · refine ⟨(k12.trans (k3.mono (by simp))).trans (Kp.put (by simp)), ?_⟩
      rw [upd_same, List.range_succ, List.filter_append, List.map_append, List.filter_cons_of_pos hp]
      rfl
  | false =>
    refine iteF ⟨k12, ?_⟩
    rw [e2, List.range_succ, List.filter_append, List.filter_cons_of_neg (by rw [hp]; exact Bool.false_ne_true)]
    simp
end NV
/-! G3 -/
set_option Elab.async false
set_option linter.all false
set_option maxRecDepth 100000
set_option maxHeartbeats 400000
namespace NV
open PySem PySem.Spec PyProof.Rows L2
open C8 (pss_cut)
/-! ### data that are within bounds -/
mutual
def niceD : PyData → Bool
  | .none => true
  | .bool _ => true
  | .int i => decide (i.natAbs.log2 < 1920)
  | .str z => decide (z.length ≤ 100) && PyData.strOk z
  | .list ds => niceAll ds
  | .tuple ds => niceAll ds
  | .dict kvs => kvs.isEmpty
def niceAll : List PyData → Bool
  | [] => true
  | d :: ds => niceD d && niceAll ds
end
theorem nice_mem : ∀ {ds : List PyData} {d : PyData}, niceAll ds = true → d ∈ ds → niceD d = true
  | e :: ds, d, h, hd => by
    simp only [niceAll, Bool.and_eq_true] at h
    rcases List.mem_cons.mp hd with z | z
    · rw [z]; exact h.1
    · exact nice_mem h.2 z
theorem nice_str {z : Str} (h : niceD (.str z) = true) : z.length ≤ 100 ∧ PyData.strOk z = true := by
  simp only [niceD, Bool.and_eq_true, decide_eq_true_eq] at h
  exact h
theorem nice_tup {ds : List PyData} (h : niceD (.tuple ds) = true) : ∀ d ∈ ds, niceD d = true := by
  simp only [niceD] at h
  exact fun d hd => nice_mem h hd
theorem RpAll.length {ex : List Addr} {H : Hp} : ∀ {ds : List PyData} {vs : List V}, RpAll ex H ds vs → ds.length = vs.length
  | [], _, h => by subst h; rfl
  | d :: ds, _, ⟨v, ws, e, _, h2⟩ => by
    subst e
    rw [List.length_cons, List.length_cons, RpAll.length h2]
theorem RpAll.at {ex : List Addr} {H : Hp} : ∀ {ds : List PyData} {vs : List V} {j : Nat} {d : PyData}, RpAll ex H ds vs → ds[j]? = some d → ∃ v, vs[j]? = some v ∧ Rp ex H d v
  | [], _, j, d, _, hj => by simp at hj
  | e :: ds, _, 0, d, ⟨v, ws, ev, h1, _⟩, hj => by
    subst ev
    simp at hj
    subst hj
    exact ⟨v, rfl, h1⟩
  | e :: ds, _, j + 1, d, ⟨v, ws, ev, _, h2⟩, hj => by
    subst ev
    obtain ⟨u, hu, hr⟩ := RpAll.at h2 (by simpa using hj)
    exact ⟨u, by simpa using hu, hr⟩
/-- the texts among data -/
def textsOf : List PyData → List Str
  | [] => []
  | .str z :: ds => z :: textsOf ds
  | _ :: ds => textsOf ds
theorem texts_all {m : Nat} {b : Bool} {ex : List Addr} {H : Hp} : ∀ {ds : List PyData} {vs : List V}, RpAll ex H ds vs → ds.all (wordD m b) = true → vs = (textsOf ds).map V.str ∧ ds = (textsOf ds).map PyData.str
  | [], _, h, _ => by subst h; exact ⟨rfl, rfl⟩
  | d :: ds, _, ⟨v, ws, e, h1, h2⟩, ha => by
    subst e
    rw [List.all_cons, Bool.and_eq_true] at ha
    obtain ⟨e1, e2⟩ := texts_all h2 ha.2
    cases d with
    | str z =>
      obtain rfl : v = .str z := h1
      refine ⟨?_, ?_⟩
      · show V.str z :: ws = V.str z :: (textsOf ds).map V.str
        rw [← e1]
      · show PyData.str z :: ds = PyData.str z :: (textsOf ds).map PyData.str
        rw [← e2]
    | _ => exact absurd ha.1 (by simp [wordD])
/-- a rising tuple of least to 3 cells -/
def cellsD (least : Nat) : PyData → Bool
  | .tuple ds => decide (least ≤ ds.length) && decide (ds.length ≤ 3) && ds.all (wordD 4 false) && decide (Asc (textsOf ds))
  | _ => false
theorem tup_of_isD {d : PyData} (h : isD "tuple" d = true) : ∃ ds, d = .tuple ds := by
  cases d with
  | tuple ds => exact ⟨ds, rfl⟩
  | _ => exact absurd (show (_ : Bool) = true from h) (by simp [isD, tyN])
theorem cellsD_no {d : PyData} {l : Nat} (h : isD "tuple" d = false) : cellsD l d = false := by
  cases d with
  | tuple ds => exact absurd h (by simp [isD, tyN])
  | _ => rfl
end NV
/-! ReprEq -/
set_option Elab.async false
set_option linter.all false
set_option maxRecDepth 100000
set_option maxHeartbeats 600000
/-! which data show as a given plain text in quotes -/
namespace NV
open PySem PySem.Spec PyProof.Rows L2
open PySem.Builtin.Str (reprChar)
theorem cat_list (x y : Str) : (x ++ y).cps.toList = x.cps.toList ++ y.cps.toList := by
  show (x.cps ++ y.cps).toList = _
  rw [Array.toList_append]
theorem from_pre : ∀ (ts : List Str) (k : Nat) (acc : Str), ∃ r, (textFrom k acc ts).cps.toList = acc.cps.toList ++ r
  | [], k, acc => ⟨[], by show acc.cps.toList = _; rw [List.append_nil]⟩
  | t :: ts, k, acc => by
    obtain ⟨r, hr⟩ := from_pre ts (k + 1) (acc ++ (if k > 0 then ", " else "" : String) ++ t)
    refine ⟨(Str.ofString (if k > 0 then ", " else "")).cps.toList ++ t.cps.toList ++ r, ?_⟩
    show (textFrom (k + 1) (acc ++ (if k > 0 then ", " else "" : String) ++ t) ts).cps.toList = _
    rw [hr, cat_list, cat_list]
    simp only [List.append_assoc]
theorem char_own {q c : Nat} (h : 92 ∉ reprChar q c) : reprChar q c = [c] := by
  unfold reprChar at h ⊢
  split at h
  · simp at h
  split at h
  · simp at h
  split at h
  · simp at h
  split at h
  · simp at h
  split at h
  · simp_all
  split at h
  · simp at h
  split at h
  · simp at h
  · simp at h
theorem fold_list (q : Nat) : ∀ (l : List Nat) (acc : Array Nat), (l.foldl (fun out c => out ++ (reprChar q c).toArray) acc).toList = acc.toList ++ l.flatMap (reprChar q)
  | [], acc => by simp
  | c :: l, acc => by
    rw [List.foldl_cons, fold_list q l]
    simp
theorem repr_list (z : Str) : (reprText z).cps.toList = reprQuote z :: (z.cps.toList.flatMap (reprChar (reprQuote z)) ++ [reprQuote z]) := by
  unfold reprText
  show (Array.push _ _).toList = _
  rw [Array.toList_push, ← Array.foldl_toList, fold_list]
  simp
theorem flat_own {q : Nat} : ∀ {l m : List Nat}, 92 ∉ m → l.flatMap (reprChar q) = m → l = m
  | [], m, _, h => by simpa using h
  | c :: l, m, hm, h => by
    rw [List.flatMap_cons] at h
    have h1 : 92 ∉ reprChar q c := fun x => hm (by rw [← h]; exact List.mem_append_left _ x)
    rw [char_own h1] at h
    cases m with
    | nil => simp at h
    | cons b m =>
      simp only [List.cons_append, List.nil_append, List.cons.injEq] at h
      rw [h.1, flat_own (fun x => hm (List.mem_cons_of_mem _ x)) h.2]
/-- data that show as 'x', x without signs that are written otherwise -/
theorem shown_quoted {d : PyData} {x : Str} (h92 : 92 ∉ x.cps.toList) (h : d.shown.cps.toList = 39 :: (x.cps.toList ++ [39])) : d = .str x := by
  have hd : ∀ {c : Nat} {r : List Nat}, d.shown.cps.toList = c :: r → c = 39 := fun e => by
    rw [h] at e
    exact (List.cons.inj e).1.symm
  cases d with
  | none =>
    have e : PyData.none.shown.cps.toList = 78 :: [111, 110, 101] := by simp only [PyData.shown]; decide
    exact absurd (hd e) (by decide)
  | bool b =>
    cases b with
    | true =>
      have e : (PyData.bool true).shown.cps.toList = 84 :: [114, 117, 101] := by simp only [PyData.shown]; decide
      exact absurd (hd e) (by decide)
    | false =>
      have e : (PyData.bool false).shown.cps.toList = 70 :: [97, 108, 115, 101] := by simp only [PyData.shown]; decide
      exact absurd (hd e) (by decide)
  | int i =>
    have := int_text_free' 39 ⟨by decide, by decide⟩ i
    simp only [PyData.shown] at h
    rw [h] at this
    simp at this
  | str z =>
    simp only [PyData.shown] at h
    rw [repr_list] at h
    obtain ⟨h1, h2⟩ := List.cons.inj h
    have h3 := List.append_inj_left' h2 rfl
    have := flat_own h92 h3
    exact congrArg PyData.str (ext_toList this)
  | list ds =>
    obtain ⟨r, hr⟩ := from_pre (PyData.shownAll ds) 0 "["
    have e : (PyData.list ds).shown.cps.toList = 91 :: (r ++ [93]) := by
      simp only [PyData.shown]
      unfold listText
      rw [cat_list, hr]
      rfl
    exact absurd (hd e) (by decide)
  | tuple ds =>
    have e : ∃ r, (PyData.tuple ds).shown.cps.toList = 40 :: r := by
      simp only [PyData.shown]
      unfold tupleText
      rw [cat_list, cat_list]
      exact ⟨_, rfl⟩
    obtain ⟨r, e⟩ := e
    exact absurd (hd e) (by decide)
  | dict kvs =>
    have e : ∃ r, (PyData.dict kvs).shown.cps.toList = 123 :: r := by
      simp only [PyData.shown]
      unfold dictText
      rw [cat_list, cat_list]
      exact ⟨_, rfl⟩
    obtain ⟨r, e⟩ := e
    exact absurd (hd e) (by decide)
theorem shown_query {d : PyData} : d.shown = ("'query'" : Str) ↔ d = .str "query" := by
  refine ⟨fun h => shown_quoted (by decide) (by rw [h]; decide), fun h => ?_⟩
  subst h
  simp only [PyData.shown]
  decide +kernel
theorem shown_write {d : PyData} : d.shown = ("'write'" : Str) ↔ d = .str "write" := by
  refine ⟨fun h => shown_quoted (by decide) (by rw [h]; decide), fun h => ?_⟩
  subst h
  simp only [PyData.shown]
  decide +kernel
end NV
/-! G4 -/
set_option Elab.async false
set_option linter.all false
set_option maxRecDepth 100000
set_option maxHeartbeats 400000
namespace NV
open PySem PySem.Spec PyProof.Rows L2
open C8 (pss_cut)
mutual
theorem show_of_nice : ∀ d : PyData, niceD d = true → d.showable = true
  | .none, _ => by simp only [PyData.showable]
  | .bool _, _ => by simp only [PyData.showable]
  | .str _, _ => by simp only [PyData.showable]
  | .int i, h => by simpa only [PyData.showable, niceD] using h
  | .list ds, h => by
    simp only [niceD] at h
    simp only [PyData.showable]
    exact shows_of_nice ds h
  | .tuple ds, h => by
    simp only [niceD] at h
    simp only [PyData.showable]
    exact shows_of_nice ds h
  | .dict kvs, h => by
    simp only [niceD] at h
    cases kvs with
    | nil => simp only [PyData.showable, PyData.showableKv]
    | cons x r => simp at h
theorem shows_of_nice : ∀ ds : List PyData, niceAll ds = true → PyData.showableAll ds = true
  | [], _ => by simp only [PyData.showableAll]
  | d :: ds, h => by
    simp only [niceAll, Bool.and_eq_true] at h
    simp only [PyData.showableAll, Bool.and_eq_true]
    exact ⟨show_of_nice d h.1, shows_of_nice ds h.2⟩
end
/-! ### how long data show -/
mutual
def vol : PyData → Nat
  | .none => 5
  | .bool _ => 5
  | .int i => i.natAbs.log2 + 2
  | .str z => 10 * z.length + 2
  | .list ds => volAll ds + 3
  | .tuple ds => volAll ds + 3
  | .dict _ => 2
def volAll : List PyData → Nat
  | [] => 0
  | d :: ds => vol d + 2 + volAll ds
end
theorem join_le : ∀ ts : List Str, (Str.join ", " ts).length ≤ piled ts
  | [] => Nat.zero_le _
  | t :: ts => by
    have := join_length_add (t :: ts) (by simp)
    omega
theorem vol_nat {i : Int} : ((toString i : String) : Str).length ≤ i.natAbs.log2 + 2 := by
  have h := int_text_length_le (a := i) (k := i.natAbs.log2 + 1) (by omega) (by omega)
  rw [PySem.ofString_length]
  omega
theorem list_text_le : ∀ ts : List Str, (listText ts).length ≤ piled ts + 2
  | [] => by rw [listText_nil]; decide
  | t :: r => by
    have h := textFrom_length_pos r 1 (("[" : Str) ++ (if (0 : Nat) > 0 then ", " else "" : String) ++ t) (Nat.succ_pos 0)
    have e : ((("[" : Str) ++ (if (0 : Nat) > 0 then ", " else "" : String) ++ t)).length = 1 + t.length := by
      rw [strLen_append, strLen_append]
      rfl
    have e2 : (listText (t :: r)).length = (textFrom 1 (("[" : Str) ++ (if (0 : Nat) > 0 then ", " else "" : String) ++ t) r).length + 1 := by
      show (textFrom 1 (("[" : Str) ++ (if (0 : Nat) > 0 then ", " else "" : String) ++ t) r ++ "]").length = _
      rw [strLen_append]
      rfl
    rw [e2, h, e, piled_cons]
    omega
theorem tuple_text_le (ts : List Str) : (tupleText ts).length ≤ piled ts + 3 := by
  have h := join_le ts
  unfold tupleText
  rw [strLen_append, strLen_append]
  have e1 : ("(" : Str).length = 1 := rfl
  have e2 : (Str.ofString (if (ts.length == 1) = true then ",)" else ")")).length ≤ 2 := by split <;> decide
  omega
mutual
theorem shown_le : ∀ d : PyData, niceD d = true → d.shown.length ≤ vol d
  | .none, _ => by simp only [PyData.shown, vol]; decide
  | .bool b, _ => by simp only [PyData.shown, vol]; cases b <;> decide
  | .str z, h => by
    simp only [PyData.shown, vol]
    refine StrLaws.reprText_len z fun c hc => ?_
    have := (nice_str h).2
    unfold PyData.strOk at this
    rw [Array.all_eq_true_iff_forall_mem] at this
    have h2 := this c (by simpa using hc)
    have h3 : c < 0x110000 := by simpa using h2
    omega
  | .int i, h => by
    simp only [PyData.shown, vol]
    exact vol_nat
  | .list ds, h => by
    simp only [niceD] at h
    simp only [PyData.shown, vol]
    have h1 := piled_le ds h
    have h2 := list_text_le (PyData.shownAll ds)
    omega
  | .tuple ds, h => by
    simp only [niceD] at h
    simp only [PyData.shown, vol]
    have h1 := piled_le ds h
    have h2 := tuple_text_le (PyData.shownAll ds)
    omega
  | .dict kvs, h => by
    simp only [niceD] at h
    cases kvs with
    | nil => simp only [PyData.shown, PyData.shownKv, vol]; decide
    | cons x r => simp at h
theorem piled_le : ∀ ds : List PyData, niceAll ds = true → piled (PyData.shownAll ds) ≤ volAll ds
  | [], _ => by simp only [PyData.shownAll, volAll]; decide
  | d :: ds, h => by
    simp only [niceAll, Bool.and_eq_true] at h
    have h1 := shown_le d h.1
    have h2 := piled_le ds h.2
    simp only [PyData.shownAll, volAll]
    rw [piled_cons]
    omega
end
/-- data within all bounds -/
structure Good (d : PyData) : Prop where
  nice : niceD d = true
  deep : d.depth ≤ 64
  small : vol d ≤ 1000000
theorem Good.fits {d : PyData} (g : Good d) : d.shown.length ≤ sizeLine := by
  have := shown_le d g.nice
  have := g.small
  rw [sizeLine_eq]
  omega
theorem vol_mem : ∀ {ds : List PyData} {d : PyData}, d ∈ ds → vol d ≤ volAll ds
  | e :: ds, d, h => by
    simp only [volAll]
    rcases List.mem_cons.mp h with z | z
    · rw [z]; omega
    · have := vol_mem z
      omega
theorem shown_mem : ∀ {ds : List PyData} {d : PyData}, d ∈ ds → d.shown ∈ PyData.shownAll ds
  | e :: ds, d, h => by
    simp only [PyData.shownAll]
    rcases List.mem_cons.mp h with z | z
    · rw [z]; exact List.mem_cons_self
    · exact List.mem_cons_of_mem _ (shown_mem z)
theorem depth_mem : ∀ {ds : List PyData} {d : PyData}, d ∈ ds → d.depth ≤ PyData.depthAll ds
  | e :: ds, d, h => by
    simp only [PyData.depthAll]
    rcases List.mem_cons.mp h with z | z
    · rw [z]; exact Nat.le_max_left _ _
    · exact Nat.le_trans (depth_mem z) (Nat.le_max_right _ _)
theorem Good.item {ds : List PyData} {d : PyData} (g : Good (.tuple ds)) (h : d ∈ ds) : Good d := by
  refine ⟨nice_tup g.nice d h, ?_, ?_⟩
  · have h1 := g.deep
    simp only [PyData.depth] at h1
    have := depth_mem h
    omega
  · have h1 := g.small
    simp only [vol] at h1
    have := vol_mem h
    omega
def priceD : PyData → Bool
  | .none => true
  | .int i => decide (0 < i) && decide (i < 100)
  | _ => false
def strD (x : Str) (d : PyData) : Bool := match d with
  | .str z => decide (z = x)
  | _ => false
theorem strD_iff {x : Str} {d : PyData} : strD x d = true ↔ d = .str x := by
  cases d <;> simp [strD]
/-- an entry -/
def entryD : PyData → Bool
  | .tuple [k, i, c] => wordD 6 true i && strD "query" k && cellsD 1 c
  | .tuple [k, i, r, s, p] => wordD 6 true i && strD "write" k && cellsD 0 r && cellsD 1 s && priceD p
  | _ => false
theorem entryD_no {d : PyData} (h : isD "tuple" d = false) : entryD d = false := by
  cases d with
  | tuple ds => exact absurd h (by simp [isD, tyN])
  | _ => rfl
theorem entryD_short {ds : List PyData} (h : ds.length < 3) : entryD (.tuple ds) = false := by
  match ds, h with
  | [], _ => rfl
  | [_], _ => rfl
  | [_, _], _ => rfl
theorem ixD {K : PySem.W.Frag} {ex : List Addr} {H : Hp} {a : Addr} {xs : List V} {ds : List PyData} {d : PyData} {j : Nat} {i : Int} {Q : VK} (ei : i = (j : Int)) (ha : H a = some (.tup xs)) (hx : RpAll ex H ds xs) (hj : ds[j]? = some d) (q : ∀ v, Rp ex H d v → Q v H) : rIxT K (.ref a) (.int i) H Q := by
  obtain ⟨v, hv, hr⟩ := RpAll.at hx hj
  subst ei
  exact ⟨a, xs, _, v, rfl, rfl, .inl (.inl ha), atI_nat hv, q v hr⟩
theorem entryD_word {k i c : PyData} {r : List PyData} (h : wordD 6 true i = false) : entryD (.tuple (k :: i :: c :: r)) = false := by
  match r with
  | [] => show (wordD 6 true i && strD "query" k && cellsD 1 c) = false; rw [h]; rfl
  | [_] => rfl
  | [s, p] => show (wordD 6 true i && strD "write" k && cellsD 0 c && cellsD 1 s && priceD p) = false; rw [h]; rfl
  | _ :: _ :: _ :: _ => rfl
theorem entryD_kind {k i c : PyData} {r : List PyData} (h1 : strD "query" k = false) (h2 : strD "write" k = false) : entryD (.tuple (k :: i :: c :: r)) = false := by
  match r with
  | [] => show (wordD 6 true i && strD "query" k && cellsD 1 c) = false; rw [h1]; simp
  | [_] => rfl
  | [s, p] => show (wordD 6 true i && strD "write" k && cellsD 0 c && cellsD 1 s && priceD p) = false; rw [h2]; simp
  | _ :: _ :: _ :: _ => rfl
theorem entryD_size {k i c : PyData} {r : List PyData} (h : r.length ≠ 0) (h2 : r.length ≠ 2) : entryD (.tuple (k :: i :: c :: r)) = false := by
  match r, h, h2 with
  | [_], _, _ => rfl
  | _ :: _ :: _ :: _, _, _ => rfl
theorem dec_v (a b : Str) : decide (V.str a = V.str b) = decide (a = b) := by simp
def intP : PyData → Bool
  | .int z => decide (0 < z) && decide (z < 100)
  | _ => false
theorem price_val {σ : L2.St} {H : Hp} {Q : VK} {p : PyData} {vp : V} {ex : List Addr} (rp : Rp ex H p vp) (h : σ[1]? = some (some vp)) (q : Q (.bl (intP p)) H) :
    tAndV (tCB (rIsD "int") (tCons (tVar 1) (tCons (tC (V.ty "int")) tNil))) (tAndV (tNotV (tCB (rIsD "bool") (tCons (tVar 1) (tCons (tC (V.ty "bool")) tNil)))) (tChain (rI0 fun i j => V.bl (decide (i < j))) (rI0 fun i j => V.bl (decide (i < j))) (tC (V.int 0)) (tVar 1) (tC (V.int 100)))) σ H Q := by
  refine ⟨vp, h, vp, p, ex, rfl, rp, _, rfl, ?_⟩
  cases p with
  | int z =>
    obtain rfl : vp = .int z := rp
    refine iteT ⟨.int z, h, .int z, .int z, ex, rfl, rfl, _, rfl, _, rfl, ?_⟩
    refine iteT ⟨_, h, 0, z, rfl, rfl, _, rfl, ?_⟩
    have e : intP (.int z) = (decide (0 < z) && decide (z < 100)) := rfl
    rw [e] at q
    cases h1 : decide (0 < z) with
    | true =>
      rw [h1] at q
      exact iteT ⟨z, 100, rfl, rfl, q⟩
    | false =>
      rw [h1] at q
      exact iteF q
  | bool b =>
    obtain rfl : vp = .bl b := rp
    refine iteT ⟨.bl b, h, .bl b, .bool b, ex, rfl, rfl, _, rfl, _, rfl, ?_⟩
    exact iteF q
  | none => exact iteF q
  | str z => exact iteF q
  | list ds => exact iteF q
  | tuple ds => exact iteF q
  | dict kvs => exact iteF q
theorem price_eq {p : PyData} {vp : V} {ex : List Addr} {H : Hp} (rp : Rp ex H p vp) : priceD p = (decide (vp = .non) || intP p) := by
  cases p with
  | none =>
    obtain rfl : vp = .non := rp
    rfl
  | int z =>
    obtain rfl : vp = .int z := rp
    simp [priceD, intP]
  | bool b =>
    obtain rfl : vp = .bl b := rp
    simp [priceD, intP]
  | str z =>
    obtain rfl : vp = .str z := rp
    simp [priceD, intP]
  | list ds =>
    obtain ⟨a, xs, rfl, _⟩ := rp
    simp [priceD, intP]
  | tuple ds =>
    obtain ⟨a, xs, rfl, _⟩ := rp
    simp [priceD, intP]
  | dict kvs =>
    obtain ⟨_, a, rfl, _⟩ := rp
    simp [priceD, intP]
end NV
/-! G5 -/
set_option Elab.async false
set_option linter.all false
set_option maxRecDepth 100000
set_option maxHeartbeats 400000
namespace NV
open PySem PySem.Spec PyProof.Rows L2
open C8 (pss_cut)
/-- the id of an entry -/
def idOfD : PyData → Str
  | .tuple (_ :: .str z :: _) => z
  | _ => ""
def logD' : PyData → Bool
  | .tuple ds => decide (ds.length ≤ 60) && ds.all entryD && decide ((ds.map idOfD).Nodup)
  | _ => false
theorem logD'_no {d : PyData} (h : isD "tuple" d = false) : logD' d = false := by
  cases d with
  | tuple ds => exact absurd h (by simp [isD, tyN])
  | _ => rfl
/-- what an entry looks like -/
theorem entry_shape {d : PyData} (h : entryD d = true) : ∃ k z r, d = .tuple (k :: .str z :: r) ∧ idB z = true := by
  have word : ∀ {i : PyData}, wordD 6 true i = true → ∃ z, i = .str z ∧ idB z = true := fun {i} hw => by
    cases i with
    | str z => exact ⟨z, rfl, hw⟩
    | _ => exact absurd hw (by simp [wordD])
  match d, h with
  | .tuple [k, i, c], h =>
    have h : (wordD 6 true i && strD "query" k && cellsD 1 c) = true := h
    simp only [Bool.and_eq_true] at h
    obtain ⟨z, rfl, hz⟩ := word h.1.1
    exact ⟨k, z, _, rfl, hz⟩
  | .tuple [k, i, r, s, p], h =>
    have h : (wordD 6 true i && strD "write" k && cellsD 0 r && cellsD 1 s && priceD p) = true := h
    simp only [Bool.and_eq_true] at h
    obtain ⟨z, rfl, hz⟩ := word h.1.1.1.1
    exact ⟨k, z, _, rfl, hz⟩
  | .tuple [], h => exact absurd h (by simp [entryD])
  | .tuple [_], h => exact absurd h (by simp [entryD])
  | .tuple [_, _], h => exact absurd h (by simp [entryD])
  | .tuple [_, _, _, _], h => exact absurd h (by simp [entryD])
  | .tuple (_ :: _ :: _ :: _ :: _ :: _ :: _), h => exact absurd h (by simp [entryD])
  | .none, h => exact absurd h (by simp [entryD])
  | .bool _, h => exact absurd h (by simp [entryD])
  | .int _, h => exact absurd h (by simp [entryD])
  | .str _, h => exact absurd h (by simp [entryD])
  | .list _, h => exact absurd h (by simp [entryD])
  | .dict _, h => exact absurd h (by simp [entryD])
end NV
/-! G6 -/
set_option Elab.async false
set_option linter.all false
set_option maxRecDepth 100000
set_option maxHeartbeats 600000
namespace NV
open PySem PySem.Spec PyProof.Rows L2
open C8 (pss_cut)
def oddDs : List PyData := [.none, .bool true, .bool false, .int 0, .int 1, .int 99, .int 100, .int (-1), .str "", .str "a", .str "A", .str "abcd", .str "abcde", .str "zzzzzz", .str "zzzzzzz", .str "a b", .str "1", .dict [],
  .str "write", .str "query", .tuple [], .tuple [.str "a"], .tuple [.str "a", .str "b"], .tuple [.str "b", .str "a"], .tuple [.str "a", .str "a"], .tuple [.str "a", .str "b", .str "c", .str "q"], .list [.str "a"], .int (10 ^ 30)]
theorem odd_ok : ∀ d ∈ oddDs, niceD d = true ∧ d.depth ≤ 1 ∧ vol d ≤ 200 := by decide +kernel
theorem RpAll.back {ex : List Addr} {H : Hp} : ∀ {ds : List PyData} {vs : List V} {j : Nat} {v : V}, RpAll ex H ds vs → vs[j]? = some v → ∃ d, ds[j]? = some d ∧ Rp ex H d v
  | [], _, j, v, h, hj => by
    subst h
    simp at hj
  | e :: ds, _, 0, v, ⟨u, ws, ev, h1, _⟩, hj => by
    subst ev
    simp at hj
    subst hj
    exact ⟨e, rfl, h1⟩
  | e :: ds, _, j + 1, v, ⟨u, ws, ev, _, h2⟩, hj => by
    subst ev
    obtain ⟨d, hd, hr⟩ := RpAll.back h2 (by simpa using hj)
    exact ⟨d, by simpa using hd, hr⟩
theorem rp_new {ex : List Addr} {H : Hp} {p : Addr} {xs : List V} {ds : List PyData} (hp : p ∉ ex) (np : H p = none) (h : RpAll ex H ds xs) : Rp ex (upd H p (.tup xs)) (.tuple ds) (.ref p) := ⟨p, xs, rfl, hp, upd_same, RpAll.keep (Kp.laid np) _ _ h⟩
theorem rp_newL {ex : List Addr} {H : Hp} {p : Addr} {xs : List V} {ds : List PyData} (hp : p ∉ ex) (np : H p = none) (h : RpAll ex H ds xs) : Rp ex (upd H p (.lst xs)) (.list ds) (.ref p) := ⟨p, xs, rfl, hp, upd_same, RpAll.keep (Kp.laid np) _ _ h⟩
end NV
/-! G7 -/
set_option Elab.async false
set_option linter.all false
set_option maxRecDepth 100000
set_option maxHeartbeats 600000
namespace NV
open PySem PySem.Spec PyProof.Rows L2
open C8 (pss_cut)
/-! ### () == t, slices, sums of tuples of any length -/
def rEqNilT (K : PySem.W.Frag) : R2 := fun x y H Q => ∃ (a b : Addr) (xs : List V), x = .ref a ∧ y = .ref b ∧ SqT K H a xs ∧ SqT K H b [] ∧ Q (.bl xs.isEmpty) H
theorem op_eqNilT {X : Cx} (K : PySem.W.Frag) (hu : X.A.units + 64 < cLine) (hK : X.K = K := by rfl) : OpR X (compareOp .Eq) (rEqNilT K) := by
  subst hK
  intro pins s σ H x y v u Q I rx ry h
  obtain ⟨a, b, xs, rfl, rfl, ha, hb, q⟩ := h
  obtain rfl : v = Value.ref a := rx
  obtain rfl : u = Value.ref b := ry
  obtain ⟨its, rv, pl, _⟩ := I.tuple ha
  obtain ⟨its2, rv2, pl2, _⟩ := I.tuple hb
  cases rv2
  refine SeqAt.eq_tupleAt (e := fun _ => true) pl pl2 (by omega) (fun j h1 h2 => absurd h2 (by simp)) ⟨.bl xs.isEmpty, H, I, ?_, q⟩
  show Value.bool _ = Value.bool _
  have hl := rv.length
  cases xs with
  | nil =>
    cases its with
    | nil => rfl
    | cons z zs => simp at hl
  | cons y ys =>
    cases its with
    | nil => simp at hl
    | cons z zs => simp
theorem no_part {σ : L2.St} {H : Hp} {Q : Option Int → Hp → Prop} (h : Q none H) : tNoPart σ H Q := h
theorem slA {K : PySem.W.Frag} {ex : List Addr} {H : Hp} {a : Addr} {xs : List V} {lo hi : Option Int} {Q : VK} (ha : H a = some (.tup xs)) (na : a ∉ ex) (fr : ∀ p, H p = none → p ∉ ex)
    (q : ∀ p H', Kp [] H H' → H' p = some (.tup (cutV xs lo hi)) → p ∉ ex → Q (.ref p) H') : rSlA K (.ref a) lo hi H Q := by
  refine ⟨a, xs, rfl, .inl (.inl ha), fun w => q a H Kp.refl ?_ na, fun w p np => q p _ (Kp.laid np) upd_same (fr p np)⟩
  unfold cutV
  rw [w.1, w.2, List.drop_zero, Nat.sub_zero, List.take_length]
  exact ha
theorem catA {K : PySem.W.Frag} {ex : List Addr} {H : Hp} {a b : Addr} {xs ys : List V} {Q : VK} (ha : H a = some (.tup xs)) (hb : H b = some (.tup ys)) (na : a ∉ ex) (nb : b ∉ ex) (fr : ∀ p, H p = none → p ∉ ex) (hz : xs.length + ys.length ≤ sizeLine)
    (q : ∀ p H', Kp [] H H' → H' p = some (.tup (xs ++ ys)) → p ∉ ex → Q (.ref p) H') : rCatA K (.ref a) (.ref b) H Q := by
  refine ⟨a, b, xs, ys, rfl, rfl, .inl (.inl ha), .inl (.inl hb), hz, fun e => ?_, fun _ e => ?_, fun _ _ p np => q p _ (Kp.laid np) upd_same (fr p np)⟩
  · subst e
    exact q b H Kp.refl hb nb
  · subst e
    exact q a H Kp.refl (by rw [List.append_nil]; exact ha) na
theorem cut_from (xs : List V) (k : Nat) : cutV xs (some (k : Int)) none = xs.drop k := by
  unfold cutV
  rw [HT.sIx_none, HT.sIx_nat]
  rcases Nat.le_total k xs.length with h | h
  · rw [Nat.min_eq_left h, List.take_of_length_le (by rw [List.length_drop]; omega)]
  · rw [Nat.min_eq_right h, List.drop_length, List.drop_eq_nil_of_le h]
    simp
theorem cut_after (xs : List V) (k : Nat) : cutV xs (some ((k : Int) + 1)) none = xs.drop (k + 1) := cut_from xs (k + 1)
theorem cut_one (xs : List V) (k : Nat) : cutV xs (some (k : Int)) (some ((k : Int) + 1)) = (xs.drop k).take 1 := by
  unfold cutV
  rw [show (k : Int) + 1 = ((k + 1 : Nat) : Int) by omega, HT.sIx_nat, HT.sIx_nat]
  rcases Nat.lt_or_ge k xs.length with h | h
  · rw [Nat.min_eq_left (by omega), Nat.min_eq_left (by omega)]
    congr 1
    omega
  · rw [Nat.min_eq_right h, Nat.min_eq_right (by omega), List.drop_length, List.drop_eq_nil_of_le h]
    simp
/-! ### data cut and put together -/
theorem RpAll.cutT {ex : List Addr} {H : Hp} : ∀ {ds : List PyData} {xs : List V} (k : Nat), RpAll ex H ds xs → RpAll ex H (ds.take k) (xs.take k) ∧ RpAll ex H (ds.drop k) (xs.drop k)
  | ds, xs, 0, h => by
    refine ⟨?_, ?_⟩
    · show RpAll ex H [] _
      rfl
    · simpa using h
  | [], _, k + 1, h => by
    subst h
    exact ⟨rfl, rfl⟩
  | d :: ds, _, k + 1, ⟨v, ws, e, h1, h2⟩ => by
    subst e
    obtain ⟨a, b⟩ := RpAll.cutT k h2
    exact ⟨⟨v, ws.take k, rfl, h1, a⟩, b⟩
theorem nice_of_mem : ∀ {ds : List PyData}, (∀ d ∈ ds, niceD d = true) → niceAll ds = true
  | [], _ => by simp only [niceAll]
  | d :: ds, h => by
    simp only [niceAll, Bool.and_eq_true]
    exact ⟨h d List.mem_cons_self, nice_of_mem fun e he => h e (List.mem_cons_of_mem _ he)⟩
theorem depth_of_mem {m : Nat} : ∀ {ds : List PyData}, (∀ d ∈ ds, d.depth ≤ m) → PyData.depthAll ds ≤ m
  | [], _ => by simp only [PyData.depthAll]; omega
  | d :: ds, h => by
    simp only [PyData.depthAll]
    exact Nat.max_le.mpr ⟨h d List.mem_cons_self, depth_of_mem fun e he => h e (List.mem_cons_of_mem _ he)⟩
theorem vol_app : ∀ (ds es : List PyData), volAll (ds ++ es) = volAll ds + volAll es
  | [], es => by simp only [List.nil_append, volAll]; omega
  | d :: ds, es => by
    simp only [List.cons_append, volAll, vol_app ds es]
    omega
theorem vol_cut (ds : List PyData) (k : Nat) : volAll (ds.take k) + volAll (ds.drop k) = volAll ds := by
  rw [← vol_app, List.take_append_drop]
theorem vol_at {ds : List PyData} {k : Nat} {d : PyData} (h : ds[k]? = some d) : volAll (ds.drop k) = vol d + 2 + volAll (ds.drop (k + 1)) := by
  obtain ⟨hk, rfl⟩ := List.getElem?_eq_some_iff.mp h
  rw [List.drop_eq_getElem_cons hk]
  simp only [volAll]
theorem len_vol : ∀ ds : List PyData, ds.length ≤ volAll ds
  | [] => Nat.zero_le _
  | d :: ds => by
    have := len_vol ds
    simp only [volAll, List.length_cons]
    omega
end NV
/-! L8 -/
set_option Elab.async false
set_option linter.all false
set_option maxRecDepth 100000
set_option maxHeartbeats 600000
/-! what the law's logs are as data -/
namespace NV
open PySem PySem.Spec PyProof.Rows L2
theorem texts_map : ∀ zs : List Str, textsOf (zs.map PyData.str) = zs
  | [] => rfl
  | z :: zs => by
    show z :: textsOf (zs.map PyData.str) = _
    rw [texts_map zs]
theorem cells_data {l : Nat} {cs : List Str} (h : CellsOk l cs) : cellsD l (.tuple (cs.map .str)) = true := by
  show (decide (l ≤ (cs.map PyData.str).length) && decide ((cs.map PyData.str).length ≤ 3) && (cs.map PyData.str).all (wordD 4 false) && decide (Asc (textsOf (cs.map PyData.str)))) = true
  rw [texts_map, List.length_map, decide_eq_true h.lo, decide_eq_true h.hi, decide_eq_true h.asc, Bool.and_true, Bool.true_and, Bool.true_and, List.all_eq_true]
  intro d hd
  obtain ⟨z, hz, rfl⟩ := List.mem_map.mp hd
  exact h.ok z hz
theorem entry_data {e : Ent} (h : e.Ok) : entryD e.data = true := by
  cases e with
  | wr id rs ws pr =>
    obtain ⟨h1, h2, h3, h4⟩ := h
    show (wordD 6 true (.str id) && strD "write" (.str "write") && cellsD 0 (.tuple (rs.map .str)) && cellsD 1 (.tuple (ws.map .str)) && priceD (prD pr)) = true
    have hp : priceD (prD pr) = true := by
      cases pr with
      | none => rfl
      | some i =>
        obtain ⟨a, b⟩ := h4 i rfl
        show (decide (0 < i) && decide (i < 100)) = true
        simp
        omega
    rw [cells_data h2, cells_data h3, hp, show wordD 6 true (.str id) = true from h1, strD_iff.mpr rfl]
    rfl
  | qu id cs =>
    obtain ⟨h1, h2⟩ := h
    show (wordD 6 true (.str id) && strD "query" (.str "query") && cellsD 1 (.tuple (cs.map .str))) = true
    rw [cells_data h2, show wordD 6 true (.str id) = true from h1, strD_iff.mpr rfl]
    rfl
theorem id_data (e : Ent) : idOfD e.data = e.id := by cases e <;> rfl
theorem ids_data (es : List Ent) : (es.map Ent.data).map idOfD = es.map Ent.id := by
  rw [List.map_map]
  exact List.map_congr_left fun e _ => id_data e
/-- a list of right entries is a log if few and of different ids -/
theorem log_data {es : List Ent} (h : ∀ e ∈ es, e.Ok) : logD' (.tuple (es.map Ent.data)) = (decide (es.length ≤ 60) && decide ((es.map Ent.id).Nodup)) := by
  show (decide ((es.map Ent.data).length ≤ 60) && (es.map Ent.data).all entryD && decide (((es.map Ent.data).map idOfD).Nodup)) = _
  have e2 : (es.map Ent.data).all entryD = true := by
    rw [List.all_eq_true]
    intro d hd
    obtain ⟨e, he, rfl⟩ := List.mem_map.mp hd
    exact entry_data (h e he)
  rw [ids_data, e2, Bool.and_true, List.length_map]
theorem word_len {m : Nat} {b : Bool} {z : Str} (h : wordB m b z = true) : z.length ≤ m ∧ PyData.strOk z = true := by
  have h : (decide (1 ≤ z.cps.size) && decide (z.cps.size ≤ m) && z.cps.toList.all (isSign b)) = true := h
  simp only [Bool.and_eq_true, decide_eq_true_eq, List.all_eq_true] at h
  refine ⟨h.1.2, ?_⟩
  unfold PyData.strOk
  rw [Array.all_eq_true_iff_forall_mem]
  intro c hc
  have := h.2 c (by simpa using hc)
  unfold isSign at this
  simp at this
  simp
  omega
theorem nice_word {m : Nat} {b : Bool} {z : Str} (hm : m ≤ 100) (h : wordB m b z = true) : niceD (.str z) = true := by
  obtain ⟨h1, h2⟩ := word_len h
  simp only [niceD, Bool.and_eq_true, decide_eq_true_eq]
  exact ⟨by omega, h2⟩
theorem cells_nice {l : Nat} {cs : List Str} (h : CellsOk l cs) : niceD (.tuple (cs.map .str)) = true ∧ PyData.depth (.tuple (cs.map .str)) ≤ 1 ∧ vol (.tuple (cs.map .str)) ≤ 135 := by
  refine ⟨?_, ?_, ?_⟩
  · simp only [niceD]
    refine nice_of_mem fun d hd => ?_
    obtain ⟨z, hz, rfl⟩ := List.mem_map.mp hd
    exact nice_word (by decide) (h.ok z hz)
  · simp only [PyData.depth]
    have := depth_of_mem (m := 0) (ds := cs.map PyData.str) fun d hd => by
      obtain ⟨z, hz, rfl⟩ := List.mem_map.mp hd
      simp [PyData.depth]
    omega
  · have : ∀ zs : List Str, (∀ z ∈ zs, cellB z = true) → volAll (zs.map PyData.str) ≤ 44 * zs.length := by
      intro zs
      induction zs with
      | nil => intro _; simp [volAll]
      | cons z zs ih =>
        intro hz
        have h1 := (word_len (hz z List.mem_cons_self)).1
        have h2 := ih fun y hy => hz y (List.mem_cons_of_mem _ hy)
        simp only [List.map_cons, volAll, vol, List.length_cons]
        omega
    have h3 := this cs h.ok
    have h4 := h.hi
    simp only [vol]
    omega
theorem entry_nice {e : Ent} (h : e.Ok) : niceD e.data = true ∧ e.data.depth ≤ 2 ∧ vol e.data ≤ 410 := by
  cases e with
  | wr id rs ws pr =>
    obtain ⟨h1, h2, h3, h4⟩ := h
    obtain ⟨a1, a2, a3⟩ := cells_nice h2
    obtain ⟨b1, b2, b3⟩ := cells_nice h3
    have i1 := nice_word (by decide) h1
    have i2 := (word_len h1).1
    have p : niceD (prD pr) = true ∧ (prD pr).depth = 0 ∧ vol (prD pr) ≤ 10 := by
      cases pr with
      | none => simp [prD, niceD, PyData.depth, vol]
      | some i =>
        obtain ⟨a, b⟩ := h4 i rfl
        have : i.natAbs.log2 < 7 := (Nat.log2_lt (by omega)).mpr (by omega)
        simp only [prD, niceD, PyData.depth, vol, decide_eq_true_eq]
        exact ⟨by omega, trivial, by omega⟩
    obtain ⟨p1, p2, p3⟩ := p
    refine ⟨?_, ?_, ?_⟩
    · show niceD (.tuple [.str "write", .str id, .tuple (rs.map .str), .tuple (ws.map .str), prD pr]) = true
      have w1 : niceD (.str "write") = true := by decide +kernel
      simp only [niceD, niceAll] at a1 b1 i1 w1 ⊢
      rw [a1, b1, i1, w1, p1]
      rfl
    · show PyData.depth (.tuple [.str "write", .str id, .tuple (rs.map .str), .tuple (ws.map .str), prD pr]) ≤ 2
      simp only [PyData.depth, PyData.depthAll] at a2 b2 ⊢
      omega
    · show vol (.tuple [.str "write", .str id, .tuple (rs.map .str), .tuple (ws.map .str), prD pr]) ≤ 410
      have w1 : vol (.str "write") = 52 := by decide
      have w2 : vol (.str id) ≤ 62 := by simp only [vol]; omega
      simp only [vol, volAll] at a3 b3 w1 w2 ⊢
      omega
  | qu id cs =>
    obtain ⟨h1, h2⟩ := h
    obtain ⟨a1, a2, a3⟩ := cells_nice h2
    have i1 := nice_word (by decide) h1
    have i2 := (word_len h1).1
    refine ⟨?_, ?_, ?_⟩
    · show niceD (.tuple [.str "query", .str id, .tuple (cs.map .str)]) = true
      have w1 : niceD (.str "query") = true := by decide +kernel
      simp only [niceD, niceAll] at a1 i1 w1 ⊢
      rw [a1, i1, w1]
      rfl
    · show PyData.depth (.tuple [.str "query", .str id, .tuple (cs.map .str)]) ≤ 2
      simp only [PyData.depth, PyData.depthAll] at a2 ⊢
      omega
    · show vol (.tuple [.str "query", .str id, .tuple (cs.map .str)]) ≤ 410
      have w1 : vol (.str "query") = 52 := by decide
      have w2 : vol (.str id) ≤ 62 := by simp only [vol]; omega
      simp only [vol, volAll] at a3 w1 w2 ⊢
      omega
theorem log_nice {es : List Ent} (h : ∀ e ∈ es, e.Ok) : niceD (.tuple (es.map Ent.data)) = true ∧ PyData.depth (.tuple (es.map Ent.data)) ≤ 3 ∧ vol (.tuple (es.map Ent.data)) ≤ 412 * es.length + 3 := by
  refine ⟨?_, ?_, ?_⟩
  · simp only [niceD]
    refine nice_of_mem fun d hd => ?_
    obtain ⟨e, he, rfl⟩ := List.mem_map.mp hd
    exact (entry_nice (h e he)).1
  · simp only [PyData.depth]
    have := depth_of_mem (m := 2) (ds := es.map Ent.data) fun d hd => by
      obtain ⟨e, he, rfl⟩ := List.mem_map.mp hd
      exact (entry_nice (h e he)).2.1
    omega
  · simp only [vol]
    have : ∀ l : List Ent, (∀ e ∈ l, e.Ok) → volAll (l.map Ent.data) ≤ 412 * l.length := by
      intro l
      induction l with
      | nil => intro _; simp [volAll]
      | cons e l ih =>
        intro hl
        have h1 := (entry_nice (hl e List.mem_cons_self)).2.2
        have h2 := ih fun y hy => hl y (List.mem_cons_of_mem _ hy)
        simp only [List.map_cons, volAll, List.length_cons]
        omega
    have := this es h
    omega
/-- the first entry put in place of the one at k: a log only where it was there -/
theorem dup_ids {es : List Ent} {k : Nat} (nd : (es.map Ent.id).Nodup) (hk : k < es.length) : ((es.take k ++ es.take 1 ++ es.drop (k + 1)).map Ent.id).Nodup ↔ k = 0 := by
  cases es with
  | nil => simp at hk
  | cons x l =>
    constructor
    · intro h
      cases k with
      | zero => rfl
      | succ k =>
        exfalso
        simp only [List.take_succ_cons, List.take_zero, List.cons_append, List.map_cons, List.nodup_cons] at h
        refine h.1 ?_
        simp
    · intro e
      subst e
      simpa using nd
end NV
/-! TxtId -/
set_option Elab.async false
set_option linter.all false
set_option maxRecDepth 100000
set_option maxHeartbeats 600000
/-! an id by isascii, isalnum, lower; a cell by isalpha -/
namespace NV
open PySem PySem.Spec PyProof.Rows L2
def lowA (c : Nat) : Nat := if 65 ≤ c && c ≤ 90 then c + 32 else c
theorem lowerOf_ascii : ∀ c, c < 128 → Unicode.lowerOf c = [lowA c] := by decide +kernel
theorem alnum_ascii : ∀ c, c < 128 → (Unicode.isAlnum c && decide (lowA c = c)) = isSign true c := by decide +kernel
theorem alpha_ascii : ∀ c, c < 128 → isSign true c = true → Unicode.isAlpha c = isSign false c := by decide +kernel
theorem sign_small {b : Bool} {c : Nat} (h : isSign b c = true) : c < 128 := by
  unfold isSign at h
  simp only [Bool.or_eq_true, Bool.and_eq_true, decide_eq_true_eq] at h
  omega
theorem lower_list {z : Str} (h : ∀ c ∈ z.cps.toList, c < 128) : (Txt.lower z).cps.toList = z.cps.toList.map lowA := by
  show (z.cps.mapIdx fun i c => (Unicode.lowerAt z.cps i).toArray).flatten.toList = _
  rw [Array.toList_flatten, Array.toList_mapIdx]
  have e : ∀ i (hi : i < z.cps.toList.length), Unicode.lowerAt z.cps i = [lowA z.cps.toList[i]] := fun i hi => by
    have hi' : i < z.cps.size := by simpa using hi
    have hc := h _ (List.getElem_mem hi)
    unfold Unicode.lowerAt
    rw [Array.getElem?_eq_getElem hi']
    have e2 : z.cps[i] = z.cps.toList[i] := by simp
    rw [e2]
    dsimp only
    rw [if_neg, lowerOf_ascii _ hc]
    intro q
    rw [Bool.and_eq_true, beq_iff_eq] at q
    rw [q.1] at hc
    exact absurd hc (by decide)
  have e3 : (z.cps.toList.mapIdx fun i c => (Unicode.lowerAt z.cps i).toArray).map Array.toList = z.cps.toList.map fun c => [lowA c] := by
    refine List.ext_getElem (by simp) fun i h1 h2 => ?_
    have hi : i < z.cps.toList.length := by simpa using h1
    rw [List.getElem_map, List.getElem_mapIdx, List.getElem_map]
    rw [e i hi]
  rw [e3]
  generalize z.cps.toList = l
  induction l with
  | nil => rfl
  | cons a l ih => rw [List.map_cons, List.flatten_cons, ih]; rfl
theorem map_same : ∀ {l : List Nat}, l = l.map lowA ↔ l.all (fun c => decide (lowA c = c)) = true
  | [] => by simp
  | a :: l => by
    rw [List.map_cons, List.all_cons, Bool.and_eq_true, decide_eq_true_eq, ← map_same (l := l)]
    constructor
    · intro e
      injection e with e1 e2
      exact ⟨e1.symm, e2⟩
    · rintro ⟨e1, e2⟩
      rw [e1, ← e2]
theorem id_text {z : Str} (h : 1 ≤ z.length) : (Txt.isascii z && (Txt.isalnum z && decide (V.str z = V.str (Txt.lower z)))) = z.cps.toList.all (isSign true) := by
  have ea : Txt.isascii z = z.cps.toList.all (fun c => decide (c < 128)) := by
    show z.cps.all _ = _
    rw [← Array.all_toList]
  rw [ea]
  cases h1 : z.cps.toList.all (fun c => decide (c < 128)) with
  | false =>
    rw [Bool.false_and]
    symm
    rw [← Bool.not_eq_true, List.all_eq_true] at h1 ⊢
    exact fun q => h1 fun c hc => decide_eq_true (sign_small (q c hc))
  | true =>
    have hs : ∀ c ∈ z.cps.toList, c < 128 := fun c hc => of_decide_eq_true (List.all_eq_true.mp h1 c hc)
    have el : Txt.isalnum z = z.cps.toList.all Unicode.isAlnum := by
      show (decide (z.length > 0) && z.cps.all _) = _
      rw [decide_eq_true (show z.length > 0 by omega), Bool.true_and, ← Array.all_toList]
    have eq : decide (V.str z = V.str (Txt.lower z)) = z.cps.toList.all (fun c => decide (lowA c = c)) := by
      rw [Bool.eq_iff_iff, decide_eq_true_eq, ← map_same, ← lower_list hs]
      constructor
      · intro e
        injection e with e
        exact congrArg (fun y : Str => y.cps.toList) e
      · intro e
        exact congrArg V.str (ext_toList e)
    rw [Bool.true_and, el, eq]
    generalize z.cps.toList = l at hs ⊢
    induction l with
    | nil => rfl
    | cons a l ih =>
      have hd := alnum_ascii a (hs a List.mem_cons_self)
      have tl := ih fun c hc => hs c (List.mem_cons_of_mem _ hc)
      rw [List.all_cons, List.all_cons, List.all_cons, ← hd, ← tl]
      cases Unicode.isAlnum a <;> cases decide (lowA a = a) <;> simp
theorem alpha_text {z : Str} (h : 1 ≤ z.length) (hs : z.cps.toList.all (isSign true) = true) : Txt.isalpha z = z.cps.toList.all (isSign false) := by
  show (decide (z.length > 0) && z.cps.all _) = _
  rw [decide_eq_true (show z.length > 0 by omega), Bool.true_and, ← Array.all_toList]
  have hs := List.all_eq_true.mp hs
  generalize z.cps.toList = l at hs ⊢
  induction l with
  | nil => rfl
  | cons a l ih =>
    have q := hs a List.mem_cons_self
    rw [List.all_cons, List.all_cons, alpha_ascii a (sign_small q) q, ih fun c hc => hs c (List.mem_cons_of_mem _ hc)]
theorem all_weak {z : Str} (h : z.cps.toList.all (isSign false) = true) : z.cps.toList.all (isSign true) = true := by
  rw [List.all_eq_true] at h ⊢
  intro c hc
  have := h c hc
  unfold isSign at this ⊢
  simp only [Bool.or_eq_true, Bool.and_eq_true, decide_eq_true_eq, Bool.false_eq_true, false_and, or_false] at this
  simp only [Bool.or_eq_true, Bool.and_eq_true, decide_eq_true_eq]
  exact .inl this
end NV
/-! Q1 -/
set_option Elab.async false
set_option linter.all false
set_option maxRecDepth 100000
set_option maxHeartbeats 600000
/-! the package's is_integer_within, is_price, is_id, is_cell -/
namespace NV
open PySem PySem.Spec PyProof.Rows L2
open C8 (pss_cut pe_gc)
abbrev sIsIntegerWithin : Stmt := topS 19
theorem scIsIntegerWithin : FnScope ["value", "lowest", "highest"] ["value", "lowest", "highest"] (defScope sIsIntegerWithin) := ⟨rfl, rfl, rfl, by decide +kernel, rfl, by decide +kernel, by decide +kernel⟩
abbrev sIsId : Stmt := topS 20
theorem scIsId : FnScope ["value"] ["value"] (defScope sIsId) := ⟨rfl, rfl, rfl, by decide +kernel, rfl, by decide +kernel, by decide +kernel⟩
abbrev sIsCell : Stmt := topS 21
theorem scIsCell : FnScope ["value"] ["value"] (defScope sIsCell) := ⟨rfl, rfl, rfl, by decide +kernel, rfl, by decide +kernel, by decide +kernel⟩
abbrev sIsPrice : Stmt := topS 23
theorem scIsPrice : FnScope ["value"] ["value"] (defScope sIsPrice) := ⟨rfl, rfl, rfl, by decide +kernel, rfl, by decide +kernel, by decide +kernel⟩
/-- an int from lo to hi -/
def withinD (lo hi : Int) : PyData → Bool
  | .int i => decide (lo ≤ i) && decide (i ≤ hi)
  | _ => false
def spWithin : Sp := fun vs H Q _ => ∃ (v : V) (d : PyData) (ex : List Addr) (lo hi : Int), vs = [v, .int lo, .int hi] ∧ Rp ex H d v ∧ Q (.bl (withinD lo hi d)) H
/-- a predicate of data, asked by a def that leaves the memory as it is -/
def spIs (f : PyData → Bool) : Sp := fun vs H Q _ => ∃ (v : V) (d : PyData) (ex : List Addr), vs = [v] ∧ Rp ex H d v ∧ niceD d = true ∧ Q (.bl (f d)) H
theorem int_or {d : PyData} (h : isD "int" d = true) : (∃ i, d = .int i) ∨ ∃ b, d = .bool b := by
  cases d with
  | int i => exact .inl ⟨i, rfl⟩
  | bool b => exact .inr ⟨b, rfl⟩
  | _ => exact absurd h (by simp [isD, tyN])
section
variable {P : Program} {w : World} {K : PySem.W.Frag} {mg : Str → Option Value} {base : Heap}
theorem ok_pwithin (DIsIntegerWithin : Fn K mg "is_integer_within" sIsIntegerWithin ["value", "lowest", "highest"]) (b_isinstance : mg "isinstance" = none) (b_int : mg "int" = none) (b_bool : mg "bool" = none) :
    FnOk P w K mg base CX0 1 DIsIntegerWithin.f DIsIntegerWithin.fd ["value", "lowest", "highest"] spWithin := by
  refine DIsIntegerWithin.F.ok scIsIntegerWithin (fun vs H Q E h => ?_) (fun cdv A outer s H vs Q E hr h => ?_)
  · obtain ⟨v, d, ex, lo, hi, rfl, _⟩ := h
    rfl
  obtain ⟨v, d, ex, lo, hi, rfl, hd, q⟩ := h
  refine ⟨_, pss_one (ps_ret (pe_and (pe_callB (cr_isD (T := "int") (by decide)) (by rfl) b_isinstance (by decide +kernel) (pa_cons (pv 0) (pa_cons (pe_bltn (v := .ty "int") rfl b_int (by rfl) rfl) pa_nil))) (pe_and (pe_not (pe_callB (cr_isD (T := "bool") (by decide)) (by rfl) b_isinstance (by decide +kernel) (pa_cons (pv 0) (pa_cons (pe_bltn (v := .ty "bool") rfl b_bool (by rfl) rfl) pa_nil)))) (pe_one (pe_chain op_le op_le (pv 1) (pv 0) (pv 2)))))), ?_⟩
  refine ⟨_, rfl, v, d, ex, rfl, hd, _, rfl, ?_⟩
  cases hs : isD "int" d with
  | false =>
    refine iteF ?_
    have e : withinD lo hi d = false := by
      cases d with
      | int i => exact absurd hs (by simp [isD, tyN])
      | _ => rfl
    rw [← e]
    exact q
  | true =>
    refine iteT ⟨_, rfl, v, d, ex, rfl, hd, _, rfl, _, rfl, ?_⟩
    rcases int_or hs with ⟨i, rfl⟩ | ⟨b, rfl⟩
    · obtain rfl : v = .int i := hd
      refine iteT ⟨_, rfl, _, rfl, lo, i, rfl, rfl, _, rfl, ?_⟩
      have e : withinD lo hi (.int i) = (decide (lo ≤ i) && decide (i ≤ hi)) := rfl
      rw [e] at q
      cases h1 : decide (lo ≤ i) with
      | true =>
        rw [h1] at q
        exact iteT ⟨_, rfl, i, hi, rfl, rfl, q⟩
      | false =>
        rw [h1] at q
        exact iteF q
    · exact iteF q
theorem ok_pprice (DIsPrice : Fn K mg "is_price" sIsPrice ["value"]) (DIsIntegerWithin : Fn K mg "is_integer_within" sIsIntegerWithin ["value", "lowest", "highest"]) (g1 : ∃ u, mg "HIGHEST_PRICE" = some u ∧ L2.RelV (.int 99) u)
    (GIsIntegerWithin : FnOk P w K mg base CX0 1 DIsIntegerWithin.f DIsIntegerWithin.fd ["value", "lowest", "highest"] spWithin) : FnOk P w K mg base CX0 2 DIsPrice.f DIsPrice.fd ["value"] (spIs priceD) := by
  refine DIsPrice.F.ok scIsPrice (fun vs H Q E h => ?_) (fun cdv A outer s H vs Q E hr h => ?_)
  · obtain ⟨v, d, ex, rfl, _⟩ := h
    rfl
  obtain ⟨v, d, ex, rfl, hd, hn, q⟩ := h
  refine ⟨_, pss_one (ps_ret (pe_or (pe_cmpR op_isN (pv 0) pe_non (nomark _)) (pe_one (pe_fn DIsIntegerWithin GIsIntegerWithin hr (pa_cons (pv 0) (pa_cons pe_int (pa_cons (pe_gc (v := .int 99) rfl g1) pa_nil))))))), ?_⟩
  refine ⟨_, rfl, rfl, _, rfl, ?_⟩
  have e : priceD d = (decide (v = .non) || withinD 1 99 d) := by
    cases d with
    | none =>
      obtain rfl : v = .non := hd
      rfl
    | int i =>
      obtain rfl : v = .int i := hd
      show (decide (0 < i) && decide (i < 100)) = (decide (V.int i = V.non) || (decide (1 ≤ i) && decide (i ≤ 99)))
      rw [decide_eq_false (show ¬ V.int i = V.non from nofun), Bool.false_or]
      congr 1 <;> rw [decide_eq_decide] <;> omega
    | bool b =>
      obtain rfl : v = .bl b := hd
      rfl
    | str z =>
      obtain rfl : v = .str z := hd
      rfl
    | list ds =>
      obtain ⟨a, xs, rfl, _⟩ := hd
      rfl
    | tuple ds =>
      obtain ⟨a, xs, rfl, _⟩ := hd
      rfl
    | dict kvs =>
      obtain ⟨_, a, rfl, _⟩ := hd
      rfl
  rw [e] at q
  cases h : decide (v = V.non) with
  | true =>
    rw [h, Bool.true_or] at q
    exact iteT q
  | false =>
    rw [h, Bool.false_or] at q
    exact iteF ⟨_, rfl, v, d, ex, 1, 99, rfl, hd, q⟩
theorem ok_pid (DIsId : Fn K mg "is_id" sIsId ["value"]) (b_isinstance : mg "isinstance" = none) (b_len : mg "len" = none) (b_str : mg "str" = none) (g1 : ∃ u, mg "LONGEST_ID" = some u ∧ L2.RelV (.int 6) u) :
    FnOk P w K mg base CX0 1 DIsId.f DIsId.fd ["value"] (spIs (wordD 6 true)) := by
  refine DIsId.F.ok scIsId (fun vs H Q E h => ?_) (fun cdv A outer s H vs Q E hr h => ?_)
  · obtain ⟨v, d, ex, rfl, _⟩ := h
    rfl
  obtain ⟨v, d, ex, rfl, hd, hn, q⟩ := h
  refine ⟨_, pss_cons (ps_if (PW.pt (pw_or (pt_not (pt_val (pe_callB (cr_isD (T := "str") (by decide)) (by rfl) b_isinstance (by decide +kernel) (pa_cons (pv 0) (pa_cons (pe_bltn (v := .ty "str") rfl b_str (by rfl) rfl) pa_nil))))) (pw_or1 (pt_not (pt_chain op_le op_le pe_int (pe_callB (lenVE K) (by rfl) b_len (by decide +kernel) (pa_cons (pv 0) pa_nil)) (pe_gc (v := .int 6) rfl g1))))))
      (pss_one (ps_ret pe_bl))
      pss_nil)
      (pss_one (ps_ret (pe_and (pe_m0 F.slot_str_isascii F.type_str_isascii mt_isascii (pv 0)) (pe_and (pe_m0 F.slot_str_isalnum F.type_str_isalnum mt_isalnum (pv 0)) (pe_one (pe_cmpR op_eq (pv 0) (pe_lower (pv 0)) (nomark _))))))), ?_⟩
  refine ⟨_, rfl, v, d, ex, rfl, hd, _, rfl, ?_⟩
  cases hs : isD "str" d with
  | false =>
    refine iteT ?_
    rw [← wordD_no (m := 6) (b := true) hs]
    exact q
  | true =>
    obtain ⟨z, rfl⟩ := str_of_isD hs
    obtain rfl : v = .str z := hd
    obtain ⟨hz1, hz2⟩ := nice_str hn
    refine iteF ?_
    refine ⟨_, rfl, .str z, z.length, rfl, ⟨Nat.le_of_lt (small1000 (by omega)), rfl⟩, ?_⟩
    have wd : wordD 6 true (.str z) = (decide (1 ≤ z.length) && decide (z.length ≤ 6) && z.cps.toList.all (isSign true)) := rfl
    refine ⟨1, (z.length : Int), rfl, rfl, _, rfl, ?_⟩
    by_cases h1 : (1 : Int) ≤ (z.length : Int)
    · rw [decide_eq_true h1]
      refine iteT ⟨(z.length : Int), 6, rfl, rfl, _, rfl, ?_⟩
      by_cases h2 : (z.length : Int) ≤ 6
      · rw [decide_eq_true h2]
        refine iteF ?_
        rw [wd, decide_eq_true (show 1 ≤ z.length by omega), decide_eq_true (show z.length ≤ 6 by omega), Bool.true_and, Bool.true_and, ← id_text (by omega)] at q
        refine ⟨_, rfl, ⟨_, rfl⟩, z, rfl, rfl, trivial, _, rfl, ?_⟩
        cases ha : Txt.isascii z with
        | false =>
          rw [ha, Bool.false_and] at q
          exact iteF q
        | true =>
          rw [ha, Bool.true_and] at q
          refine iteT ⟨_, rfl, ⟨_, rfl⟩, z, rfl, rfl, trivial, _, rfl, ?_⟩
          cases hb : Txt.isalnum z with
          | false =>
            rw [hb, Bool.false_and] at q
            exact iteF q
          | true =>
            rw [hb, Bool.true_and] at q
            exact iteT ⟨_, rfl, _, rfl, ⟨_, rfl⟩, z, rfl, rfl, by omega, rfl, q⟩
      · rw [decide_eq_false h2]
        refine iteT ?_
        rw [wd, decide_eq_false (show ¬ z.length ≤ 6 by omega), Bool.and_false, Bool.false_and] at q
        exact q
    · rw [decide_eq_false h1]
      refine iteF ⟨_, rfl, iteT ?_⟩
      rw [wd, decide_eq_false (show ¬ 1 ≤ z.length by omega), Bool.false_and, Bool.false_and] at q
      exact q
theorem ok_pcell (DIsCell : Fn K mg "is_cell" sIsCell ["value"]) (DIsId : Fn K mg "is_id" sIsId ["value"]) (b_len : mg "len" = none) (g1 : ∃ u, mg "LONGEST_CELL" = some u ∧ L2.RelV (.int 4) u)
    (GIsId : FnOk P w K mg base CX0 1 DIsId.f DIsId.fd ["value"] (spIs (wordD 6 true))) : FnOk P w K mg base CX0 2 DIsCell.f DIsCell.fd ["value"] (spIs (wordD 4 false)) := by
  refine DIsCell.F.ok scIsCell (fun vs H Q E h => ?_) (fun cdv A outer s H vs Q E hr h => ?_)
  · obtain ⟨v, d, ex, rfl, _⟩ := h
    rfl
  obtain ⟨v, d, ex, rfl, hd, hn, q⟩ := h
  refine ⟨_, pss_one (ps_ret (pe_and (pe_fn DIsId GIsId hr (pa_cons (pv 0) pa_nil)) (pe_and (pe_cmpR op_le (pe_callB (lenVE K) (by rfl) b_len (by decide +kernel) (pa_cons (pv 0) pa_nil)) (pe_gc (v := .int 4) rfl g1) (nomark _)) (pe_one (pe_m0 F.slot_str_isalpha F.type_str_isalpha mt_isalpha (pv 0)))))), ?_⟩
  refine ⟨_, rfl, v, d, ex, rfl, hd, hn, _, rfl, ?_⟩
  cases hw : wordD 6 true d with
  | false =>
    refine iteF ?_
    have e : wordD 4 false d = false := by
      cases d with
      | str z =>
        rw [← Bool.not_eq_true]
        intro h
        have h : (decide (1 ≤ z.length) && decide (z.length ≤ 4) && z.cps.toList.all (isSign false)) = true := h
        rw [Bool.and_eq_true, Bool.and_eq_true, decide_eq_true_eq, decide_eq_true_eq] at h
        have : wordD 6 true (.str z) = true := by
          show (decide (1 ≤ z.length) && decide (z.length ≤ 6) && z.cps.toList.all (isSign true)) = true
          rw [decide_eq_true h.1.1, decide_eq_true (show z.length ≤ 6 by omega), all_weak h.2]
          rfl
        rw [hw] at this
        cases this
      | _ => rfl
    rw [← e]
    exact q
  | true =>
    obtain ⟨z, rfl⟩ : ∃ z, d = .str z := by
      cases d with
      | str z => exact ⟨z, rfl⟩
      | _ => cases hw
    obtain rfl : v = .str z := hd
    obtain ⟨hz1, hz2⟩ := nice_str hn
    have hw : (decide (1 ≤ z.length) && decide (z.length ≤ 6) && z.cps.toList.all (isSign true)) = true := hw
    rw [Bool.and_eq_true, Bool.and_eq_true, decide_eq_true_eq, decide_eq_true_eq] at hw
    obtain ⟨⟨w1, w2⟩, w3⟩ := hw
    have e : wordD 4 false (.str z) = (decide ((z.length : Int) ≤ 4) && Txt.isalpha z) := by
      show (decide (1 ≤ z.length) && decide (z.length ≤ 4) && z.cps.toList.all (isSign false)) = _
      rw [decide_eq_true w1, Bool.true_and, alpha_text w1 w3]
      congr 1
      rw [decide_eq_decide]
      omega
    rw [e] at q
    refine iteT ⟨_, rfl, .str z, z.length, rfl, ⟨Nat.le_of_lt (small1000 (by omega)), rfl⟩, (z.length : Int), 4, rfl, rfl, _, rfl, ?_⟩
    cases h4 : decide ((z.length : Int) ≤ 4) with
    | false =>
      rw [h4, Bool.false_and] at q
      exact iteF q
    | true =>
      rw [h4, Bool.true_and] at q
      exact iteT ⟨_, rfl, ⟨_, rfl⟩, z, rfl, rfl, trivial, q⟩
end
end NV
/-! Q2 -/
set_option Elab.async false
set_option linter.all false
set_option maxRecDepth 100000
set_option maxHeartbeats 600000
/-! the package's is_cells: cells found before stand in the dict known -/
namespace NV
open PySem PySem.Spec PyProof.Rows L2
open C8 (pss_cut pe_gc)
abbrev sIsCells : Stmt := topS 22
theorem scIsCells : FnScope ["value", "fewest", "known", "before", "cell"] ["value", "fewest", "known"] (defScope sIsCells) := ⟨rfl, rfl, rfl, by decide +kernel, rfl, by decide +kernel, by decide +kernel⟩
/-- a dict of cells, at most n -/
def trues (zs : List Str) : List (Key × V) := zs.map fun z => ((Sum.inr z : Key), V.bl true)
structure Known (kd : Addr) (n : Nat) (H : Hp) : Prop where
  at_ : ∃ zs : List Str, H kd = some (.dK (trues zs)) ∧ (∀ z ∈ zs, wordD 4 false (.str z) = true) ∧ zs.length ≤ n
theorem Known.keep {kd : Addr} {n : Nat} {H H' : Hp} (k : Known kd n H) (h : Kp [] H H') : Known kd n H' := by
  obtain ⟨zs, e, r⟩ := k
  exact ⟨zs, h _ _ (by simp) e, r⟩
theorem Known.more {kd : Addr} {n m : Nat} {H : Hp} (k : Known kd n H) (h : n ≤ m) : Known kd m H := by
  obtain ⟨zs, e, r, l⟩ := k
  exact ⟨zs, e, r, by omega⟩
theorem trues_val (z : Str) : ∀ zs : List Str, valV (trues zs) (Sum.inr z : Key) = if z ∈ zs then some (.bl true) else none
  | [] => rfl
  | y :: zs => by
    by_cases h : y = z
    · rw [if_pos (by rw [h]; exact List.mem_cons_self)]
      exact valV_pos (p := ((Sum.inr y : Key), V.bl true)) (by rw [h])
    · have e : valV (trues (y :: zs)) (Sum.inr z : Key) = valV (trues zs) (Sum.inr z : Key) := valV_neg (p := ((Sum.inr y : Key), V.bl true)) (fun q => h (Sum.inr.inj q))
      rw [e, trues_val z zs]
      by_cases h2 : z ∈ zs
      · rw [if_pos h2, if_pos (List.mem_cons_of_mem _ h2)]
      · rw [if_neg h2, if_neg (fun q => (List.mem_cons.mp q).elim (fun q => h q.symm) h2)]
theorem texts_app : ∀ ds es : List PyData, textsOf (ds ++ es) = textsOf ds ++ textsOf es
  | [], _ => rfl
  | d :: ds, es => by
    have ih := texts_app ds es
    cases d <;> simp [textsOf, ih]
/-- what is read of a tuple of cells so far -/
structure Rising (ds : List PyData) (j : Nat) (before : Str) (zs : List Str) : Prop where
  eq : ds.take j = zs.map PyData.str
  word : ∀ z ∈ zs, wordD 4 false (.str z) = true
  asc : Asc zs
  top : ∀ z ∈ zs, z = before ∨ ltS z before
  last : before ∈ zs ∨ (zs = [] ∧ before = "")
theorem Rising.next {ds : List PyData} {j : Nat} {before c : Str} {zs : List Str} (r : Rising ds j before zs) (hd : ds[j]? = some (.str c)) (lt : ltS before c) (hc : wordD 4 false (.str c) = true) : Rising ds (j + 1) c (zs ++ [c]) := by
  have below : ∀ z ∈ zs, ltS z c := fun z hz => by
    rcases r.top z hz with e | e
    · rw [e]; exact lt
    · exact ltS_trans e lt
  refine ⟨?_, fun z hz => ?_, ?_, fun z hz => ?_, .inl (by simp)⟩
  · rw [List.take_add_one, hd, r.eq]
    simp
  · rcases List.mem_append.mp hz with h | h
    · exact r.word z h
    · rw [List.mem_singleton.mp h]; exact hc
  · refine List.pairwise_append.mpr ⟨r.asc, List.pairwise_singleton _ _, fun a ha b hb => ?_⟩
    rw [List.mem_singleton.mp hb]
    exact below a ha
  · rcases List.mem_append.mp hz with h | h
    · exact .inr (below z h)
    · exact .inl (List.mem_singleton.mp h)
theorem Rising.bad {ds : List PyData} {j least : Nat} {before c : Str} {zs : List Str} (r : Rising ds j before zs) (hd : ds[j]? = some (.str c)) (lt : ¬ ltS before c) : cellsD least (.tuple ds) = false := by
  show (decide (least ≤ ds.length) && decide (ds.length ≤ 3) && ds.all (wordD 4 false) && decide (Asc (textsOf ds))) = false
  rcases r.last with h | ⟨_, rfl⟩
  · rw [show decide (Asc (textsOf ds)) = false from decide_eq_false fun q => lt ?_, Bool.and_false]
    have hj := (List.getElem?_eq_some_iff.mp hd).1
    have e : ds = ds.take j ++ ds.drop j := (List.take_append_drop j ds).symm
    have e2 : ds.drop j = .str c :: ds.drop (j + 1) := by
      rw [List.drop_eq_getElem_cons hj]
      congr 1
      exact (List.getElem?_eq_some_iff.mp hd).2
    rw [e, texts_app, r.eq, texts_map, e2] at q
    exact (List.pairwise_append.mp q).2.2 before h c (by show c ∈ c :: textsOf _; exact List.mem_cons_self)
  · have hz : c = "" := ext_toList (by
      have := lt
      unfold ltS at this
      cases hc : c.cps.toList with
      | nil => rfl
      | cons a l =>
        rw [hc] at this
        exact absurd (show (Str.ofString "").cps.toList < a :: l from List.nil_lt_cons ..) this)
    have hw : ds.all (wordD 4 false) = false := by
      rw [← Bool.not_eq_true, List.all_eq_true]
      intro q
      have := q _ (List.mem_of_getElem? hd)
      rw [hz] at this
      exact absurd this (by decide)
    rw [hw, Bool.and_false, Bool.false_and]
theorem cells_word {ds : List PyData} {j least : Nat} {d : PyData} (hd : ds[j]? = some d) (h : wordD 4 false d = false) : cellsD least (.tuple ds) = false := by
  show (decide (least ≤ ds.length) && decide (ds.length ≤ 3) && ds.all (wordD 4 false) && decide (Asc (textsOf ds))) = false
  have hw : ds.all (wordD 4 false) = false := by
    rw [← Bool.not_eq_true, List.all_eq_true]
    intro q
    rw [q _ (List.mem_of_getElem? hd)] at h
    cases h
  rw [hw, Bool.and_false, Bool.false_and]
theorem Rising.good {ds : List PyData} {least : Nat} {before : Str} {zs : List Str} (r : Rising ds ds.length before zs) (h1 : least ≤ ds.length) (h2 : ds.length ≤ 3) : cellsD least (.tuple ds) = true := by
  show (decide (least ≤ ds.length) && decide (ds.length ≤ 3) && ds.all (wordD 4 false) && decide (Asc (textsOf ds))) = true
  have e := r.eq
  rw [List.take_length] at e
  have hw : ds.all (wordD 4 false) = true := by
    rw [List.all_eq_true]
    intro d hd
    rw [e] at hd
    obtain ⟨z, hz, rfl⟩ := List.mem_map.mp hd
    exact r.word z hz
  have ha : Asc (textsOf ds) := by
    rw [e, texts_map]
    exact r.asc
  rw [decide_eq_true h1, decide_eq_true h2, hw, decide_eq_true ha]
  rfl
def spCellsK : Sp := fun vs H Q _ => ∃ (v : V) (d : PyData) (ex : List Addr) (least : Nat) (kd : Addr) (n : Nat), vs = [v, .int least, .ref kd] ∧ Rp ex H d v ∧ niceD d = true ∧ kd ∈ ex ∧ Known kd n H ∧ n ≤ 100000 ∧ ∀ H', Kp [kd] H H' → Known kd (n + 3) H' → Q (.bl (cellsD least d)) H'
section
variable {P : Program} {w : World} {K : PySem.W.Frag} {mg : Str → Option Value} {base : Heap}
theorem ok_pcells (DIsCells : Fn K mg "is_cells" sIsCells ["value", "fewest", "known"]) (DIsCell : Fn K mg "is_cell" sIsCell ["value"]) (b_isinstance : mg "isinstance" = none) (b_len : mg "len" = none) (b_tuple : mg "tuple" = none) (b_str : mg "str" = none) (g1 : ∃ u, mg "MOST_CELLS" = some u ∧ L2.RelV (.int 3) u)
    (GIsCell : FnOk P w K mg base CX0 2 DIsCell.f DIsCell.fd ["value"] (spIs (wordD 4 false))) : FnOk P w K mg base CX0 3 DIsCells.f DIsCells.fd ["value", "fewest", "known"] spCellsK := by
  refine DIsCells.F.ok scIsCells (fun vs H Q E h => ?_) (fun cdv A outer s H vs Q E hr h => ?_)
  · obtain ⟨v, d, ex, least, kd, n, rfl, _⟩ := h
    rfl
  obtain ⟨v, d, ex, least, kd, n, rfl, hd, hn, hk, kn, n5, q⟩ := h
  have hu := hu_of hr
  refine ⟨_, pss_cons (ps_if (PW.pt (pw_or (pt_not (pt_val (pe_callB (cr_isD (T := "tuple") (by decide)) (by rfl) b_isinstance (by decide +kernel) (pa_cons (pv 0) (pa_cons (pe_bltn (v := .ty "tuple") rfl b_tuple (by rfl) rfl) pa_nil))))) (pw_or1 (pt_not (pt_chain op_le op_le (pv 1) (pe_callB (lenE K) (by rfl) b_len (by decide +kernel) (pa_cons (pv 0) pa_nil)) (pe_gc (v := .int 3) rfl g1))))))
      (pss_one (ps_ret pe_bl))
      pss_nil)
      (pss_cons (ps_set (i := 3) scIsCells.nd rfl (.inl rfl) pe_str)
      (pss_cons (ps_for PassesOwn.never rfl (piTupE K (pv 0)) (pg_name (i := 4) scIsCells.nd rfl (.inl rfl))
      (pss_cons (ps_if (PW.pt (pw_or (pt_not (pt_val (pe_callB (cr_isD (T := "str") (by decide)) (by rfl) b_isinstance (by decide +kernel) (pa_cons (pv 4) (pa_cons (pe_bltn (v := .ty "str") rfl b_str (by rfl) rfl) pa_nil))))) (pw_or1 (pt_cmpR op_le_str (pv 4) (pv 3) (nomark _)))))
      (pss_one (ps_ret pe_bl))
      pss_nil)
      (pss_cons (ps_if (pt_cmp (pc_dnotin hu (pv 4) (pv 2)))
      (pss_cons (ps_if (pt_not (pt_val (pe_fn DIsCell GIsCell hr (pa_cons (pv 4) pa_nil))))
      (pss_one (ps_ret pe_bl))
      pss_nil)
      (pss_one (ps_dput hu (pv 2) (pv 4) pe_bl rfl)))
      pss_nil)
      (pss_one (ps_set (i := 3) scIsCells.nd rfl (.inl rfl) (pv 4))))))
      (pss_one (ps_ret pe_bl)))), ?_⟩
  refine ⟨_, rfl, v, d, ex, rfl, hd, _, rfl, ?_⟩
  have q0 := q H Kp.refl (kn.more (by omega))
  cases hs : isD "tuple" d with
  | false =>
    refine iteT ?_
    rw [← cellsD_no (l := least) hs]
    exact q0
  | true =>
    obtain ⟨ds, rfl⟩ := tup_of_isD hs
    obtain ⟨a, xs, rfl, na, ha, hxs⟩ := hd
    have n2 := nice_tup hn
    have hl := hxs.length
    have cd : ∀ b1 b2 b3 b4 : Bool, decide (least ≤ ds.length) = b1 → decide (ds.length ≤ 3) = b2 → ds.all (wordD 4 false) = b3 → decide (Asc (textsOf ds)) = b4 → cellsD least (.tuple ds) = (b1 && b2 && b3 && b4) := fun b1 b2 b3 b4 h1 h2 h3 h4 => by
      show (decide (least ≤ ds.length) && decide (ds.length ≤ 3) && ds.all (wordD 4 false) && decide (Asc (textsOf ds))) = _
      rw [h1, h2, h3, h4]
    refine iteF ⟨_, rfl, _, rfl, a, xs, rfl, .inr (.inl (.inl ha)), ?_⟩
    refine ⟨(least : Int), (xs.length : Int), rfl, rfl, _, rfl, ?_⟩
    by_cases h1 : (least : Int) ≤ (xs.length : Int)
    · rw [decide_eq_true h1]
      refine iteT ⟨(xs.length : Int), 3, rfl, rfl, _, rfl, ?_⟩
      by_cases h2 : (xs.length : Int) ≤ 3
      · rw [decide_eq_true h2]
        have akd : a ≠ kd := fun z => na (by rw [z]; exact hk)
        have aT : ∀ {H' : Hp}, Kp [kd] H H' → SqT K H' a xs := fun k => .inl (.inl (k _ _ (by simpa using akd) ha))
        refine iteF ⟨_, rfl, a, rfl, ⟨_, .inl (.inl ha)⟩, for_tup (K := K) (a := a) (xs := xs) (fun j σ H' => ∃ (before : Str) (cell : Option V) (zs : List Str), σ = [some (.ref a), some (.int least), some (.ref kd), some (.str before), cell] ∧ Kp [kd] H H' ∧ Known kd (n + j) H' ∧ Rising ds j before zs)
          ⟨"", none, [], rfl, Kp.refl, kn.more (by omega), ⟨rfl, (fun z hz => by cases hz), List.Pairwise.nil, (fun z hz => by cases hz), .inr ⟨rfl, rfl⟩⟩⟩ ?_ ?_ ?_⟩
        · rintro j σ H' hj ⟨_, _, _, _, k, _⟩
          exact aT k
        · rintro j x σ H' hx ⟨before, cell, zs, rfl, k, kj, r⟩
          have hj : j < xs.length := (List.getElem?_eq_some_iff.mp hx).1
          have hj3 : j < 3 := by omega
          obtain ⟨e, he1, he2⟩ := RpAll.back hxs hx
          have ke := Rp.keep (k.mono (by simpa using hk)) _ _ he2
          have ne := n2 e (List.mem_of_getElem? he1)
          have stop : wordD 4 false e = false → Q (.bl false) H' := fun h => by
            rw [← cells_word (least := least) he1 h]
            exact q H' k (kj.more (by omega))
          refine ⟨_, rfl, x, e, ex, rfl, ke, _, rfl, ?_⟩
          cases hse : isD "str" e with
          | false => exact iteT (stop (wordD_no hse))
          | true =>
            obtain ⟨c, rfl⟩ := str_of_isD hse
            obtain rfl : x = .str c := ke
            refine iteF ⟨_, rfl, _, rfl, c, before, rfl, rfl, _, rfl, ?_⟩
            by_cases hlt : ltS before c
            · rw [show decide (before.cps.toList < c.cps.toList) = true from decide_eq_true hlt]
              obtain ⟨ys, ey, wy, ly⟩ := kj.at_
              refine iteF ⟨_, rfl, _, rfl, kd, _, rfl, DGet.k (k := Sum.inr c) ey, _, rfl, ?_⟩
              rw [trues_val]
              have go : ∀ {H2 : Hp}, Kp [kd] H H2 → Known kd (n + (j + 1)) H2 → wordD 4 false (.str c) = true → ∃ (before' : Str) (cell : Option V) (zs : List Str), [some (.ref a), some (.int least), some (.ref kd), some (.str c), some (.str c)] = [some (.ref a), some (.int least), some (.ref kd), some (.str before'), cell] ∧ Kp [kd] H H2 ∧ Known kd (n + (j + 1)) H2 ∧ Rising ds (j + 1) before' zs :=
                fun k2 kn2 hc => ⟨c, _, _, rfl, k2, kn2, r.next he1 hlt hc⟩
              by_cases hin : c ∈ ys
              · rw [if_pos hin]
                exact iteF ⟨_, rfl, go k (kj.more (by omega)) (wy c hin)⟩
              · rw [if_neg hin]
                refine iteT ⟨_, rfl, .str c, .str c, ex, rfl, rfl, ne, _, rfl, ?_⟩
                cases hw : wordD 4 false (.str c) with
                | false => exact iteT (stop hw)
                | true =>
                  refine iteF ⟨_, rfl, _, rfl, kd, _, rfl, DPut.k (k := Sum.inr c) ey (by show (trues ys).length < sizeLine; rw [show (trues ys).length = ys.length from List.length_map ..]; have : (100003 : Nat) < sizeLine := by decide
                                                                                          omega), ?_⟩
                  refine ⟨_, rfl, go (k.trans (Kp.put (by simp))) ⟨ys ++ [c], ?_, fun z hz => ?_, by rw [List.length_append, List.length_singleton]; omega⟩ hw⟩
                  · rw [upd_same, putK_new _ (by rw [trues_val, if_neg hin])]
                    unfold trues
                    rw [List.map_append]
                    rfl
                  · rcases List.mem_append.mp hz with h | h
                    · exact wy z h
                    · rw [List.mem_singleton.mp h]; exact hw
            · rw [show decide (before.cps.toList < c.cps.toList) = false from decide_eq_false hlt]
              refine iteT ?_
              rw [← r.bad (least := least) he1 hlt]
              exact q H' k (kj.more (by omega))
        · rintro σ H' ⟨before, cell, zs, rfl, k, kj, r⟩
          rw [← hl] at r kj
          rw [← r.good (least := least) (by omega) (by omega)]
          exact q H' k (kj.more (by omega))
      · rw [decide_eq_false h2]
        refine iteT ?_
        have e : cellsD least (.tuple ds) = false := (cd _ false _ _ rfl (decide_eq_false (by omega)) rfl rfl).trans (by simp)
        rw [← e]
        exact q0
    · rw [decide_eq_false h1]
      refine iteF ⟨_, rfl, iteT ?_⟩
      have e : cellsD least (.tuple ds) = false := (cd false _ _ _ (decide_eq_false (by omega)) rfl rfl rfl).trans rfl
      rw [← e]
      exact q0
end
end NV
/-! P4b -/
set_option Elab.async false
set_option linter.all false
set_option maxRecDepth 100000
set_option maxHeartbeats 600000
namespace NV
open PySem PySem.Spec PyProof.Rows L2
/-! ### data != a text -/
theorem dict_ne_str (l : Addr) (es : Array DictEntry) (n : Nat) (dd : Option Addr) (sl : Array (Option Value)) (b : Str) (u : Tok) :
    Meets (Builtin.«dict.__ne__» ⟨[.ref l, .str b u], []⟩) (fun _ R s => s.heap.get? l = some { cls := .type "dict", dict := dd, data := .dict es n, slots := sl } ∧ R (.ok (.ret .notImplemented)) s) :=
  .of_wp fun prog w A R s h => by
    obtain ⟨hp, g, d, tk, os⟩ := s
    obtain ⟨hl, h⟩ := h
    have f1 := F.sub_str_dict
    wp_walk using wpAny_loadPart' hl
    exact ⟨_, rfl, h⟩
theorem str_ne_dict (b : Str) (u : Tok) (l : Addr) (es : Array DictEntry) (n : Nat) (dd : Option Addr) (sl : Array (Option Value)) :
    Meets (Builtin.«str.__ne__» ⟨[.str b u, .ref l], []⟩) (fun _ R s => s.heap.get? l = some { cls := .type "dict", dict := dd, data := .dict es n, slots := sl } ∧ R (.ok (.ret .notImplemented)) s) :=
  .of_wp fun prog w A R s h => by
    obtain ⟨hp, g, d, tk, os⟩ := s
    obtain ⟨hl, h⟩ := h
    wp_walk using wpAny_loadPart' hl, wpAny_load hl
    exact ⟨_, rfl, h⟩
theorem ne_dict_str {A : Around} {s : Shared} {l : Addr} {o : Obj} {es : Array DictEntry} {n : Nat} (b : Str) (u : Tok) (ho : s.heap.get? l = some o) (hc : o.cls = .type "dict") (hd : o.data = .dict es n) (hu : A.units < cLine) : SeqAt.RcNeAt A s (.ref l) (.str b u) true := fun prog w E Q h => by
  obtain ⟨cls, dd, data, sl⟩ := o
  simp only at hc hd
  subst hc hd
  exact SeqAt.rc_ne_decline_or (k := false) ⟨_, ho, rfl⟩ (typeIs_str s b u) (by decide) F.sub_str_dict F.slot_dict_ne F.slot_str_ne_refl
    (fun _ hq => call_meets F.slot_dict_ne ⟨_, ho, rfl⟩ F.entry_dict_ne (F.args_dict_ne_2 _ _) (dict_ne_str l es n dd sl b u) ⟨ho, hq⟩)
    (fun _ hq => call_meets F.slot_str_ne_refl (typeIs_str s b u) F.entry_str_ne (F.args_str_ne_2 _ _) (str_ne_dict b u l es n dd sl) ⟨ho, hq⟩)
    (fun _ hq => wpAny_of_eq (rfl : isSame (.ref l) (.str b u) = pure false) hq) (.inr hu) h
def rNeDS : R2 := fun x y H Q => ∃ (d : PyData) (ex : List Addr) (z : Str), y = .str z ∧ Rp ex H d x ∧ Q (.bl (!strD z d)) H
theorem op_neDS {X : Cx} (hu : X.A.units + 64 < cLine) : OpR X (compareOp .NotEq) rNeDS := by
  intro pins s σ H x y v u Q I rx ry h
  obtain ⟨d, ex, z, rfl, hd, q⟩ := h
  have hu' : X.A.units < cLine := by omega
  have fin : strD z d = false → EP X pins σ Q (.bool true) s := fun e => ⟨.bl true, H, I, rfl, by rw [e] at q; exact q⟩
  have sc : scal x (.str z) = true → (!decide (x = .str z)) = (!strD z d) → wpAny (model X.prog X.w) X.A (compareOp .NotEq v u) (EP X pins σ Q) X.xe s := fun h1 h2 => op_ne pins s σ H x (.str z) v u Q I rx ry ⟨h1, by rw [h2]; exact q⟩
  obtain ⟨t, rfl⟩ := ry
  cases d with
  | none =>
    obtain rfl : x = .non := hd
    exact sc rfl rfl
  | bool b =>
    obtain rfl : x = .bl b := hd
    exact sc rfl (by simp [strD])
  | int i =>
    obtain rfl : x = .int i := hd
    exact sc rfl (by simp [strD])
  | str y =>
    obtain rfl : x = .str y := hd
    exact sc rfl (by simp [strD])
  | list ds =>
    obtain ⟨a, xs, rfl, _, ha, _⟩ := hd
    obtain rfl : v = Value.ref a := rx
    obtain ⟨its, rv, pl, _⟩ := I.list (.inl (.inl ha))
    exact SeqAt.RcNeAt.list_str z t pl.isList hu' _ _ _ _ (fin rfl)
  | tuple ds =>
    obtain ⟨a, xs, rfl, _, ha, _⟩ := hd
    obtain rfl : v = Value.ref a := rx
    obtain ⟨its, rv, pl, _⟩ := I.tuple (.inl (.inl ha))
    exact SeqAt.RcNeAt.tuple_str z t pl hu' _ _ _ _ (fin rfl)
  | dict kvs =>
    obtain ⟨rfl, a, rfl, _, ha⟩ := hd
    obtain rfl : v = Value.ref a := rx
    obtain ⟨_, o, es, ep, ho, hc, hdt, _⟩ := no_entries I.hok ha
    exact ne_dict_str z t ho hc hdt hu' _ _ _ _ (fin rfl)
/-! ### data == a text -/
theorem dict_eq_no (l : Addr) (es : Array DictEntry) (n : Nat) (dd : Option Addr) (sl : Array (Option Value)) (b : Str) (u : Tok) :
    Meets (Builtin.«dict.__eq__» ⟨[.ref l, .str b u], []⟩) (fun _ R s => s.heap.get? l = some { cls := .type "dict", dict := dd, data := .dict es n, slots := sl } ∧ R (.ok (.ret .notImplemented)) s) :=
  .of_wp fun prog w A R s h => by
    obtain ⟨hp, g, d, tk, os⟩ := s
    obtain ⟨hl, h⟩ := h
    have f1 := F.sub_str_dict
    wp_walk using wpAny_loadPart' hl
    exact ⟨_, rfl, h⟩
theorem str_eq_no (b : Str) (u : Tok) (l : Addr) (es : Array DictEntry) (n : Nat) (dd : Option Addr) (sl : Array (Option Value)) :
    Meets (Builtin.«str.__eq__» ⟨[.str b u, .ref l], []⟩) (fun _ R s => s.heap.get? l = some { cls := .type "dict", dict := dd, data := .dict es n, slots := sl } ∧ R (.ok (.ret .notImplemented)) s) :=
  .of_wp fun prog w A R s h => by
    obtain ⟨hp, g, d, tk, os⟩ := s
    obtain ⟨hl, h⟩ := h
    wp_walk using wpAny_loadPart' hl, wpAny_load hl
    exact ⟨_, rfl, h⟩
theorem eq_dict_text {A : Around} {s : Shared} {l : Addr} {o : Obj} {es : Array DictEntry} {n : Nat} (b : Str) (u : Tok) (ho : s.heap.get? l = some o) (hc : o.cls = .type "dict") (hd : o.data = .dict es n) (hu : A.units < cLine) : SeqAt.RcAt A s (.ref l) (.str b u) false := fun prog w E Q h => by
  obtain ⟨cls, dd, data, sl⟩ := o
  simp only at hc hd
  subst hc hd
  refine SeqAt.rc_eq_decline_or (k := false) (Ta := "dict") (Tb := "str") ⟨_, ho, rfl⟩ (typeIs_str s b u) (by decide) F.sub_str_dict F.slot_dict_eq F.slot_str_eq_refl (fun _ hq => ?_) (fun _ hq => ?_) (fun _ hq => wpAny_of_eq (rfl : isSame (.ref l) (.str b u) = pure false) hq) (.inr hu) h
  · exact call_meets F.slot_dict_eq ⟨_, ho, rfl⟩ F.entry_dict_eq (F.args_dict_eq_2 _ _) (dict_eq_no l es n dd sl b u) ⟨ho, hq⟩
  · exact call_meets F.slot_str_eq_refl (typeIs_str s b u) F.entry_str_eq (F.args_str_eq_2 _ _) (str_eq_no b u l es n dd sl) ⟨ho, hq⟩
def rEqDS : R2 := fun x y H Q => ∃ (d : PyData) (ex : List Addr) (z : Str), y = .str z ∧ Rp ex H d x ∧ Q (.bl (strD z d)) H
theorem op_eqDS {X : Cx} (hu : X.A.units + 64 < cLine) : OpR X (compareOp .Eq) rEqDS := by
  intro pins s σ H x y v u Q I rx ry h
  obtain ⟨d, ex, z, rfl, hd, q⟩ := h
  have hu' : X.A.units < cLine := by omega
  have fin : strD z d = false → EP X pins σ Q (.bool false) s := fun e => ⟨.bl false, H, I, rfl, by rw [e] at q; exact q⟩
  have sc : scal x (.str z) = true → decide (x = .str z) = strD z d → wpAny (model X.prog X.w) X.A (compareOp .Eq v u) (EP X pins σ Q) X.xe s := fun h1 h2 => op_eq pins s σ H x (.str z) v u Q I rx ry ⟨h1, by rw [h2]; exact q⟩
  obtain ⟨t, rfl⟩ := ry
  match d, hd with
  | .none, hd =>
    obtain rfl : x = .non := hd
    exact sc rfl rfl
  | .bool b, hd =>
    obtain rfl : x = .bl b := hd
    exact sc rfl (by simp [strD])
  | .int i, hd =>
    obtain rfl : x = .int i := hd
    exact sc rfl (by simp [strD])
  | .str y, hd =>
    obtain rfl : x = .str y := hd
    exact sc rfl (by simp [strD])
  | .list ds, hd =>
    obtain ⟨a, xs, rfl, _, ha, _⟩ := hd
    obtain rfl : v = Value.ref a := rx
    obtain ⟨its, rv, pl, _⟩ := I.list (.inl (.inl ha))
    exact SeqAt.RcAt.list_str z t pl.isList hu' _ _ _ _ (fin rfl)
  | .tuple ds, hd =>
    obtain ⟨a, xs, rfl, _, ha, _⟩ := hd
    obtain rfl : v = Value.ref a := rx
    obtain ⟨its, rv, pl, _⟩ := I.tuple (.inl (.inl ha))
    exact SeqAt.RcAt.tuple_str z t pl hu' _ _ _ _ (fin rfl)
  | .dict kvs, hd =>
    obtain ⟨rfl, a, rfl, _, ha⟩ := hd
    obtain rfl : v = Value.ref a := rx
    obtain ⟨_, o, es, ep, ho, hc, hdt, _⟩ := no_entries I.hok ha
    exact eq_dict_text z t ho hc hdt hu' _ _ _ _ (fin rfl)
end NV
/-! Q3 -/
set_option Elab.async false
set_option linter.all false
set_option maxRecDepth 100000
set_option maxHeartbeats 600000
/-! the package's is_entry_with -/
namespace NV
open PySem PySem.Spec PyProof.Rows L2
open C8 (pss_cut pe_gc)
abbrev sIsEntryWith : Stmt := topS 24
theorem scIsEntryWith : FnScope ["value", "known", "kind", "entry_id", "reads", "writes", "price", "cells"] ["value", "known"] (defScope sIsEntryWith) := ⟨rfl, rfl, rfl, by decide +kernel, rfl, by decide +kernel, by decide +kernel⟩
def spEntryK : Sp := fun vs H Q _ => ∃ (v : V) (d : PyData) (ex : List Addr) (kd : Addr) (n : Nat), vs = [v, .ref kd] ∧ Rp ex H d v ∧ niceD d = true ∧ kd ∈ ex ∧ Known kd n H ∧ n ≤ 90000 ∧ ∀ H', Kp [kd] H H' → Known kd (n + 6) H' → Q (.bl (entryD d)) H'
theorem entry_len {ds : List PyData} (h3 : ds.length ≠ 3) (h5 : ds.length ≠ 5) : entryD (.tuple ds) = false := by
  match ds with
  | [_, _, _] => exact absurd rfl h3
  | [_, _, _, _, _] => exact absurd rfl h5
  | [] => rfl
  | [_] => rfl
  | [_, _] => rfl
  | [_, _, _, _] => rfl
  | _ :: _ :: _ :: _ :: _ :: _ :: _ => rfl
section
variable {P : Program} {w : World} {K : PySem.W.Frag} {mg : Str → Option Value} {base : Heap}
theorem ok_pentryk (DIsEntryWith : Fn K mg "is_entry_with" sIsEntryWith ["value", "known"]) (DIsId : Fn K mg "is_id" sIsId ["value"]) (DIsPrice : Fn K mg "is_price" sIsPrice ["value"]) (DIsCells : Fn K mg "is_cells" sIsCells ["value", "fewest", "known"]) (b_isinstance : mg "isinstance" = none) (b_len : mg "len" = none) (b_tuple : mg "tuple" = none)
    (GIsId : FnOk P w K mg base CX0 1 DIsId.f DIsId.fd ["value"] (spIs (wordD 6 true))) (GIsPrice : FnOk P w K mg base CX0 2 DIsPrice.f DIsPrice.fd ["value"] (spIs priceD)) (GIsCells : FnOk P w K mg base CX0 3 DIsCells.f DIsCells.fd ["value", "fewest", "known"] spCellsK) :
    FnOk P w K mg base CX0 4 DIsEntryWith.f DIsEntryWith.fd ["value", "known"] spEntryK := by
  refine DIsEntryWith.F.ok scIsEntryWith (fun vs H Q E h => ?_) (fun cdv A outer s H vs Q E hr h => ?_)
  · obtain ⟨v, d, ex, kd, n, rfl, _⟩ := h
    rfl
  obtain ⟨v, d, ex, kd, n, rfl, hd, hn, hk, kn, n5, q⟩ := h
  refine ⟨_, pss_cons (ps_if (pt_not (pt_val (pe_callB (cr_isD (T := "tuple") (by decide)) (by rfl) b_isinstance (by decide +kernel) (pa_cons (pv 0) (pa_cons (pe_bltn (v := .ty "tuple") rfl b_tuple (by rfl) rfl) pa_nil)))))
      (pss_one (ps_ret pe_bl))
      pss_nil)
      (pss_cons (ps_if (pt_cmpR op_eq (pe_callB (lenE K) (by rfl) b_len (by decide +kernel) (pa_cons (pv 0) pa_nil)) pe_int (nomark _))
      (pss_cons (ps_asg (pv 0) (pg_tup (by rfl) (pgs_cons (pg_name (i := 2) scIsEntryWith.nd rfl (.inl rfl)) (pgs_cons (pg_name (i := 3) scIsEntryWith.nd rfl (.inl rfl)) (pgs_cons (pg_name (i := 4) scIsEntryWith.nd rfl (.inl rfl)) (pgs_cons (pg_name (i := 5) scIsEntryWith.nd rfl (.inl rfl)) (pgs_cons (pg_name (i := 6) scIsEntryWith.nd rfl (.inl rfl)) pgs_nil)))))))
      (pss_cons (ps_if (PW.pt (pw_or (pt_cmpR (op_neDS hr.units) (pv 2) pe_str (nomark _)) (pw_or (pt_not (pt_val (pe_fn DIsId GIsId hr (pa_cons (pv 3) pa_nil)))) (pw_or1 (pt_not (pt_val (pe_fn DIsPrice GIsPrice hr (pa_cons (pv 6) pa_nil))))))))
      (pss_one (ps_ret pe_bl))
      pss_nil)
      (pss_one (ps_ret (pe_and (pe_fn DIsCells GIsCells hr (pa_cons (pv 4) (pa_cons pe_int (pa_cons (pv 1) pa_nil)))) (pe_one (pe_fn DIsCells GIsCells hr (pa_cons (pv 5) (pa_cons pe_int (pa_cons (pv 1) pa_nil))))))))))
      pss_nil)
      (pss_cons (ps_if (pt_cmpR op_eq (pe_callB (lenE K) (by rfl) b_len (by decide +kernel) (pa_cons (pv 0) pa_nil)) pe_int (nomark _))
      (pss_cons (ps_asg (pv 0) (pg_tup (by rfl) (pgs_cons (pg_name (i := 2) scIsEntryWith.nd rfl (.inl rfl)) (pgs_cons (pg_name (i := 3) scIsEntryWith.nd rfl (.inl rfl)) (pgs_cons (pg_name (i := 7) scIsEntryWith.nd rfl (.inl rfl)) pgs_nil)))))
      (pss_one (ps_ret (pe_and (pe_cmpR (op_eqDS hr.units) (pv 2) pe_str (nomark _)) (pe_and (pe_fn DIsId GIsId hr (pa_cons (pv 3) pa_nil)) (pe_one (pe_fn DIsCells GIsCells hr (pa_cons (pv 7) (pa_cons pe_int (pa_cons (pv 1) pa_nil))))))))))
      pss_nil)
      (pss_one (ps_ret pe_bl)))), ?_⟩
  refine ⟨_, rfl, v, d, ex, rfl, hd, _, rfl, ?_⟩
  have q0 := q H Kp.refl (kn.more (by omega))
  have hk' : ∀ b ∈ [kd], b ∈ ex := by simpa using hk
  cases hs : isD "tuple" d with
  | false =>
    refine iteT ?_
    rw [← entryD_no hs]
    exact q0
  | true =>
    obtain ⟨ds, rfl⟩ := tup_of_isD hs
    obtain ⟨a, xs, rfl, na, ha, hxs⟩ := hd
    have hl := hxs.length
    have n2 := nice_tup hn
    refine iteF ⟨_, rfl, a, xs, rfl, .inr (.inl (.inl ha)), rfl, _, rfl, ?_⟩
    by_cases h5 : xs.length = 5
    · rw [show decide (V.int (xs.length : Int) = V.int 5) = true from decide_eq_true (by rw [h5]; rfl)]
      obtain ⟨k, i, r, t, p, rfl⟩ : ∃ k i r t p, ds = [k, i, r, t, p] := by
        match ds, hl with
        | [k, i, r, t, p], _ => exact ⟨k, i, r, t, p, rfl⟩
        | [], hl => simp at hl; omega
        | [_], hl => simp at hl; omega
        | [_, _], hl => simp at hl; omega
        | [_, _, _], hl => simp at hl; omega
        | [_, _, _, _], hl => simp at hl; omega
        | _ :: _ :: _ :: _ :: _ :: _ :: _, hl => simp at hl; omega
      obtain ⟨xk, w1, rfl, rk, xi, w2, rfl, ri, xr, w3, rfl, rr, xt, w4, rfl, rt, xp, w5, rfl, rp, rfl⟩ := hxs
      have wd : ∀ b1 b2 b3 b4 b5 : Bool, strD "write" k = b1 → wordD 6 true i = b2 → cellsD 0 r = b3 → cellsD 1 t = b4 → priceD p = b5 → entryD (.tuple [k, i, r, t, p]) = (b2 && b1 && b3 && b4 && b5) := fun b1 b2 b3 b4 b5 z1 z2 z3 z4 z5 => by
        show (wordD 6 true i && strD "write" k && cellsD 0 r && cellsD 1 t && priceD p) = _
        rw [z1, z2, z3, z4, z5]
      refine iteT ⟨_, rfl, a, [xk, xi, xr, xt, xp], rfl, .inl (.inl ha), rfl, _, _, rfl, _, _, rfl, _, _, rfl, _, _, rfl, _, _, rfl, rfl, ?_⟩
      refine ⟨_, rfl, k, ex, "write", rfl, rk, _, rfl, ?_⟩
      cases hq : strD "write" k with
      | false =>
        refine iteT ?_
        have e := wd false _ _ _ _ hq rfl rfl rfl rfl
        rw [Bool.and_false, Bool.false_and, Bool.false_and, Bool.false_and] at e
        rw [← e]
        exact q0
      | true =>
        refine iteF ⟨_, rfl, xi, i, ex, rfl, ri, n2 i (by simp), _, rfl, ?_⟩
        cases hw : wordD 6 true i with
        | false =>
          refine iteT ?_
          have e := wd true false _ _ _ hq hw rfl rfl rfl
          rw [Bool.false_and, Bool.false_and, Bool.false_and, Bool.false_and] at e
          rw [← e]
          exact q0
        | true =>
          refine iteF ⟨_, rfl, xp, p, ex, rfl, rp, n2 p (by simp), _, rfl, ?_⟩
          cases hp : priceD p with
          | false =>
            refine iteT ?_
            have e := wd true true _ _ false hq hw rfl rfl hp
            rw [Bool.and_false] at e
            rw [← e]
            exact q0
          | true =>
            refine iteF ⟨_, rfl, _, rfl, xr, r, ex, 0, kd, n, rfl, rr, n2 r (by simp), hk, kn, by omega, fun H2 k2 t2 => ⟨_, rfl, ?_⟩⟩
            cases hr0 : cellsD 0 r with
            | false =>
              refine iteF ?_
              have e := wd true true false _ _ hq hw hr0 rfl rfl
              rw [Bool.and_false, Bool.false_and, Bool.false_and] at e
              rw [← e]
              exact q H2 k2 (t2.more (by omega))
            | true =>
              refine iteT ⟨_, rfl, _, rfl, xt, t, ex, 1, kd, n + 3, rfl, Rp.keep (k2.mono hk') _ _ rt, n2 t (by simp), hk, t2, by omega, fun H3 k3 t3 => ?_⟩
              have e := wd true true true _ true hq hw hr0 rfl hp
              rw [Bool.true_and, Bool.true_and, Bool.true_and, Bool.and_true] at e
              rw [← e]
              exact q H3 (k2.trans k3) (t3.more (by omega))
    · rw [show decide (V.int (xs.length : Int) = V.int 5) = false from decide_eq_false (by intro e; injection e with e; omega)]
      refine iteF ⟨_, rfl, a, xs, rfl, .inr (.inl (.inl ha)), rfl, _, rfl, ?_⟩
      by_cases h3 : xs.length = 3
      · rw [show decide (V.int (xs.length : Int) = V.int 3) = true from decide_eq_true (by rw [h3]; rfl)]
        obtain ⟨k, i, c, rfl⟩ : ∃ k i c, ds = [k, i, c] := by
          match ds, hl with
          | [k, i, c], _ => exact ⟨k, i, c, rfl⟩
          | [], hl => simp at hl; omega
          | [_], hl => simp at hl; omega
          | [_, _], hl => simp at hl; omega
          | _ :: _ :: _ :: _ :: _, hl => simp at hl; omega
        obtain ⟨xk, w1, rfl, rk, xi, w2, rfl, ri, xc, w3, rfl, rc, rfl⟩ := hxs
        have qd : ∀ b1 b2 b3 : Bool, strD "query" k = b1 → wordD 6 true i = b2 → cellsD 1 c = b3 → entryD (.tuple [k, i, c]) = (b2 && b1 && b3) := fun b1 b2 b3 z1 z2 z3 => by
          show (wordD 6 true i && strD "query" k && cellsD 1 c) = _
          rw [z1, z2, z3]
        refine iteT ⟨_, rfl, a, [xk, xi, xc], rfl, .inl (.inl ha), rfl, _, _, rfl, _, _, rfl, _, _, rfl, rfl, ?_⟩
        refine ⟨_, rfl, k, ex, "query", rfl, rk, _, rfl, ?_⟩
        cases hq : strD "query" k with
        | false =>
          refine iteF ?_
          have e := qd false _ _ hq rfl rfl
          rw [Bool.and_false, Bool.false_and] at e
          rw [← e]
          exact q0
        | true =>
          refine iteT ⟨_, rfl, xi, i, ex, rfl, ri, n2 i (by simp), _, rfl, ?_⟩
          cases hw : wordD 6 true i with
          | false =>
            refine iteF ?_
            have e := qd true false _ hq hw rfl
            rw [Bool.false_and, Bool.false_and] at e
            rw [← e]
            exact q0
          | true =>
            refine iteT ⟨_, rfl, _, rfl, xc, c, ex, 1, kd, n, rfl, rc, n2 c (by simp), hk, kn, by omega, fun H2 k2 t2 => ?_⟩
            have e := qd true true _ hq hw rfl
            rw [Bool.true_and, Bool.true_and] at e
            rw [← e]
            exact q H2 k2 (t2.more (by omega))
      · rw [show decide (V.int (xs.length : Int) = V.int 3) = false from decide_eq_false (by intro e; injection e with e; omega)]
        refine iteF ?_
        rw [← entry_len (ds := ds) (by omega) (by omega)]
        exact q0
end
end NV
/-! SetCT -/
set_option Elab.async false
set_option linter.all false
set_option maxRecDepth 100000
set_option maxHeartbeats 2000000
/-! {elt for x in t}: the texts that elt gives for the items of a tuple, as a set -/
namespace NV
open PySem PySem.Spec PyProof.Rows L2
section
variable {P : Program} {w : World} {A : Around} {E : Value → Shared → Prop} {s : Shared} {a : Addr} {S : Str → Bool} {n : Nat}
/-- a text goes into a set of texts -/
theorem setT_put {z : Str} {t : Tok} {Q : Value → Shared → Prop} (R : SetG (PySem.strKind P w) tKey s.heap a S n) (room : n + 1 < scanBound)
    (fin : ∀ g, Heap.SameBut a s.heap g → SetG (PySem.strKind P w) tKey g a (fun j => S j || decide (j = z)) (if S z = true then n else n + 1) → ∀ tk, Q .none { s with heap := g, toks := tk }) :
    wpAny (model P w) A (call (.builtin "set.add") [.ref a, .str z t]) Q E s := by
  have isz : (PySem.strKind P w).is z (.str z t) = true := by show (z == z) = true; exact beq_self_eq_true z
  refine wpAny_call_entry F.slot_set_add (SetG.plain tKey_ok R).typeIs F.entry_set_add ?_ (F.args_set_add_2 _ _)
  unfold Builtin.«set.add» Builtin.Frozenset.oneOther
  simp only [List.isEmpty_nil, bind_assoc]
  unfold Builtin.Frozenset.addrOf setAdd
  refine wpAny_bind (wpAny_pure ?_)
  try dsimp only
  refine wpAny_bind (wpAny_pure ?_)
  try dsimp only
  refine wpAny_bind (wpAny_holding (wpAny_bind ((PySem.strKind P w).pyHash isz ?_)))
  refine setG_add_hashed (s := { s with toks := s.toks + 1 }) tKey_ok isz rfl R room fun g sb r => ?_
  show wpAny _ _ (ret Value.none) _ _ _
  exact wpAny_pure ⟨_, rfl, fin g sb r _⟩
end
section
variable {X : Cx}
/-- the texts zs stand for the items in turn; elt leaves the memory as it finds it -/
def tSetC (K : PySem.W.Frag) (P : Program) (w : World) (i : Nat) (tl te : TE) : TE := fun σ H Q => iTup K tl σ H fun J H1 => ∃ (a : Addr) (xs : List V) (zs : List Str), J = Itt K a ∧ SqT K H1 a xs ∧ zs.length = xs.length ∧ zs.length < 1000 ∧
  (∀ (j : Nat) (x : V) (z : Str) (H2 : Hp) (Q2 : VK), xs[j]? = some x → zs[j]? = some z → Kp [] H1 H2 → Q2 (.str z) H2 → te ((wipe σ [i]).set i (some x)) H2 Q2) ∧
  ∀ (D : Addr) (n : Nat), n ≤ zs.length → (n = zs.length ↔ zs.Nodup) → H1 D = none → Q (.ref D) (upd H1 D (SetT P w D (fun j => decide (j ∈ zs)) n))
/-- what the set's members are after j turns -/
def upTo (zs : List Str) (j : Nat) : Str → Bool := fun k => decide (k ∈ zs.take j)
theorem upTo_zero (zs : List Str) : upTo zs 0 = fun _ => false := by
  funext k
  unfold upTo
  simp
theorem upTo_next {zs : List Str} {j : Nat} {z : Str} (h : zs[j]? = some z) : (fun k => upTo zs j k || decide (k = z)) = upTo zs (j + 1) := by
  funext k
  unfold upTo
  rw [List.take_add_one, h]
  simp [List.mem_append]
theorem upTo_all (zs : List Str) : upTo zs zs.length = fun k => decide (k ∈ zs) := by
  funext k
  unfold upTo
  rw [List.take_length]
theorem pe_setC {elt tg iter : Expr} {i : Nat} {scope : Scope} {own : List (PySem.Str × Nat)} {pos : Pos} {tl te : TE} (K : PySem.W.Frag) (P : Program) (w : World) (hc : X.calm = true) (hN : X.N.Nodup) (hl : PE X iter tl) (ok : BlkOk X.N X.env.scope scope own)
    (hg : ∀ (s : Shared) (H : Hp) (C : Addr) (cl : List (PySem.Str × Addr)) (fp : List Addr), PG (X.blk s H scope (compEnvC scope cl C X.env) fp) tg (gName i))
    (he : ∀ (s : Shared) (H : Hp) (C : Addr) (cl : List (PySem.Str × Addr)) (fp : List Addr), PE (X.blk s H scope (compEnvC scope cl C X.env) fp) elt te)
    (how : own.map (·.2) = [i] := by rfl) (hs : ∀ x, foldedSetIterable iter X.env x = pure x := by intro _; rfl) (hK : X.K = K := by rfl) (hP : X.prog = P := by rfl) (hw : X.w = w := by rfl) :
    PE X (.SetComp elt [⟨tg, iter, [], 0⟩] scope pos) (tSetC K P w i tl te) := by
  subst hK hP hw
  constructor
  intro pins s σ H Q I h
  rw [PpSet.eval_SetComp]
  have cells : ∀ y ∈ scope.names, y.2 = .free → ∃ c, X.env.cells.lookup y.1 = some c := fun y hy e => (ok.free y hy e).elim (fun z => I.ok.has _ (.inl z)) fun z => I.ok.has _ (.inr z)
  have tup : PI X tg iter (iTup X.K tl) := pi_tup hl
  refine wpAny_comprehension_free (use := none) rfl hs (closure_ok cells) ok.kind (fun y hy e => (ok.uniq y hy).trans (congrArg some e)) ?_
  refine thn (tup.run pins s σ H _ I h) fun _ _ came => thn came fun _ sa ⟨it, fp, tn, _, Ha, e1, Ia, T, t0, off, a, xs, zs, e2, hx, hlen, hmany, step, fin⟩ => ?_
  subst e1 e2
  refine PpSet.newSet_ok (newEnv_comp ?_)
  -- D: the new set
  obtain ⟨D, hD⟩ : ∃ D, sa.heap.objs.size = D := ⟨_, rfl⟩
  rw [hD]
  have noD : Ha D = none := Ia.hok.fresh (Nat.le_of_eq hD)
  obtain ⟨sb, esb⟩ : ∃ sb : Shared, { sa with heap := sa.heap.push (blank X.w) } = sb := ⟨_, rfl⟩
  have hb : sb.heap = sa.heap.push (blank X.w) := by rw [← esb]
  have grow : ∀ b o, sa.heap.get? b = some o → sb.heap.get? b = some o := fun b o e => by rw [hb]; exact Heap.get?_push_of_some _ e
  have newD : sb.heap.get? D = some (blank X.w) := by rw [hb, ← hD]; exact Heap.get?_push_size _ rfl
  have Ib : Inv X pins σ (upd Ha D (SetT X.prog X.w D (fun _ => false) 0)) sb := by
    rw [← esb]
    exact Ia.laid (t' := sa.toks) (fun b o e => Heap.get?_push_of_some _ e) (Nat.le_of_eq hD) (setT_new (SetG.start (by rw [← hb]; exact newD) rfl))
  obtain ⟨Hb, eHb⟩ : ∃ Hb, upd Ha D (SetT X.prog X.w D (fun _ => false) 0) = Hb := ⟨_, rfl⟩
  rw [eHb] at Ib
  have few : ∀ b ∈ fp, b < D := fun b m => by
    obtain ⟨o, e, _⟩ := T.obj 0 _ t0 b m
    rw [← hD]
    exact Heap.lt_size e
  have offB : ∀ b ∈ fp, FpOk X pins Hb b ∧ b < sb.heap.objs.size := fun b m => by
    have lt := few b m
    refine ⟨⟨?_, (off b m).2⟩, ?_⟩
    · rw [← eHb, upd_ne (Nat.ne_of_lt lt)]
      exact (off b m).1
    · rw [hb, Heap.size_push, hD]
      exact Nat.lt_succ_of_lt lt
  have It := block_start Ib ok hN offB
  obtain ⟨C, hC⟩ : ∃ C, sb.heap.objs.size = C := ⟨_, rfl⟩
  have gg := hg sb Hb C (cellsFrom (C + 1) scope.names (cloFrom X.env.cells scope.names [])) fp
  have ee := he sb Hb C (cellsFrom (C + 1) scope.names (cloFrom X.env.cells scope.names [])) fp
  rw [how, hC] at It
  have esa : ({ sa with heap := sa.heap.push (blank X.w) } : Shared).heap.objs.size = C := by rw [esb]; exact hC
  show codeAny _ _ (.compStart _ 0 (.ref it) (.ref D) (compEnvC scope (cellsFrom (({ sa with heap := sa.heap.push (blank X.w) } : Shared).heap.objs.size + 1) scope.names (cloFrom X.env.cells scope.names [])) ({ sa with heap := sa.heap.push (blank X.w) } : Shared).heap.objs.size X.env)) (compPost _ _ _ none _ (.ref D) ({ sa with heap := sa.heap.push (blank X.w) } : Shared).heap.objs.size) { ({ sa with heap := sa.heap.push (blank X.w) } : Shared) with heap := pushCells (({ sa with heap := sa.heap.push (blank X.w) } : Shared).heap.push { cls := .type "dict", data := .dict #[] }) scope.names }
  rw [esb, hC]
  obtain ⟨N, eN⟩ : ∃ N, compEnvC scope (cellsFrom (C + 1) scope.names (cloFrom X.env.cells scope.names [])) C X.env = N := ⟨_, rfl⟩
  have locN : N.locals = C := by rw [← eN]; rfl
  rw [eN] at It gg ee ⊢
  obtain ⟨sc, esc⟩ : ∃ sc : Shared, { sb with heap := pushCells (sb.heap.push { cls := .type "dict", data := .dict #[] }) scope.names } = sc := ⟨_, rfl⟩
  rw [esc] at It ⊢
  have tc : tn 0 sc.heap := T.keep _ _ _ t0 fun b _ o e => by
    rw [← esc]
    exact pushCells_keeps _ _ _ _ (Heap.get?_push_of_some _ (grow b o e))
  -- the iterator's objects stay as they are while the block runs
  have still : ∀ {τ : L2.St} {H' : Hp} {s' : Shared}, Inv (X.blk sb Hb scope N fp) [] τ H' s' → (∀ b ∈ fp, H' b = none) → ∀ b ∈ fp, FpOk (X.blk sb Hb scope N fp) [] H' b := fun J none b m =>
    ⟨none b m, (J.ok.exf b m).1, J.ok.exfs b m, .inl m, fun x c e => (J.ok.exf b m).2 x c e, fun p hp => by cases hp⟩
  have tupAt : ∀ {c : Nat} {S : Str → Bool}, SqT X.K (upd Ha D (SetT X.prog X.w D S c)) a xs := fun {c S} => Kp.seqT (ex := []) (Kp.laid noD) (by simp) hx
  let W : Nat → Shared → Prop := fun m s' => ∃ j c, m = xs.length - j ∧ j ≤ xs.length ∧ c ≤ j ∧ Inv (X.blk sb Hb scope N fp) [] (wipe σ [i]) (upd Ha D (SetT X.prog X.w D (upTo zs j) c)) s' ∧ tn j s'.heap ∧ ∀ b ∈ fp, upd Ha D (SetT X.prog X.w D (upTo zs j) c) b = none
  have start : W xs.length sc := ⟨0, 0, by omega, Nat.zero_le _, Nat.le_refl _, by rw [upTo_zero, eHb]; exact It, tc, fun b m => by rw [upTo_zero, eHb]; exact (offB b m).1.1⟩
  refine PpSet.codeAny_compStart_set ?loop (T.self X.A 0 _ _ _ tc ?loop)
  refine PpSet.compLoopS_any W (fun m s' hW => ?_) xs.length start
  obtain ⟨j, c, rfl, hj, hcj, J, tj, noJ⟩ := hW
  rcases Nat.lt_or_ge j xs.length with lt | ge
  · -- one more item
    have hxj : xs[j]? = some xs[j] := List.getElem?_eq_getElem lt
    have ltz : j < zs.length := by omega
    have hzj : zs[j]? = some zs[j] := List.getElem?_eq_getElem ltz
    refine thnF (T.item (X.blk sb Hb scope N fp) rfl rfl rfl hc j [] s' _ _ (fun _ _ => False) J (still J noJ) tj ⟨xs, xs[j], tupAt, hxj⟩) fun r s1 ⟨u, er, h1⟩ => ?_
    subst er
    refine thnF h1 fun _ s2 ⟨x, H2, J2, ru, ⟨eH, yx⟩, t2, no2⟩ => ?_
    have ex : xs[j]? = some x := yx xs tupAt
    rw [hxj] at ex
    cases ex
    subst eH
    have J2p := J2.pinned (still J2 no2) (T.obj _ _ t2)
    refine thnF (gg.run _ s2 _ _ _ u (fun τ H3 => τ = (wipe σ [i]).set i (some xs[j]) ∧ H3 = upd Ha D (SetT X.prog X.w D (upTo zs j) c)) J2p ru ⟨rfl, rfl⟩) fun _ s3 ⟨τ, H3, J3, eτ, eH3⟩ => ?_
    subst eτ eH3
    refine wpAny_pure ?_
    show if true = true then _ else _
    rw [if_pos rfl]
    refine thnF (ee.run _ s3 _ _ (fun v H4 => v = .str zs[j] ∧ H4 = upd Ha D (SetT X.prog X.w D (upTo zs j) c)) J3 (step j _ _ _ _ hxj hzj (Kp.laid noD) ⟨rfl, rfl⟩)) fun u4 s4 ⟨v4, H4, J4, r4, ev, eH4⟩ => ?_
    subst ev eH4
    obtain ⟨t4, rfl⟩ : ∃ t, u4 = Value.str zs[j] t := r4
    have room : c + 1 < scanBound := by unfold scanBound; omega
    refine setT_put (setT_get (X := X.blk sb Hb scope N fp) J4 upd_same) room fun g sm R tk => ?_
    have gone : ∃ u, g.get? D = some u := by
      obtain ⟨o, _, _, _, ⟨ho, _⟩, _⟩ := R
      exact ⟨o, ho⟩
    have J5 := J4.write (e := D) (t' := tk) (by rw [upd_same]; trivial) (.inl rfl) (fun b u hbD hu => (sm.2 b hbD).trans hu) gone (setT_new R)
    rw [upd_upd, upTo_next hzj] at J5
    have pin : ∀ b ∈ fp, ∀ o, s2.heap.get? b = some o → g.get? b = some o ∧ _ := fun b m o e => J5.pin (b, o) (List.mem_append_right _ (List.mem_append_right _ (mem_pinsAt m e)))
    have len : (wipe σ [i]).length = ((wipe σ [i]).set i (some xs[j])).length := by rw [List.length_set]
    refine ⟨xs.length - (j + 1), by omega, j + 1, if upTo zs j zs[j] = true then c else c + 1, rfl, lt, by split <;> omega, (J5.unpinned (pins := [])).weak len (fun k v e => ?_), T.keep _ _ _ t2 fun b m o e => (pin b m o e).1, fun b m => ?_⟩
    · have ne : i ≠ k := fun z => (wipe_some e).2 (by rw [z]; exact List.mem_singleton.mpr rfl)
      rw [List.getElem?_set_ne ne]
      exact e
    · obtain ⟨o, e, _⟩ := T.obj _ _ t2 b m
      exact (pin b m o e).2.1
  · -- the end
    have ej : j = xs.length := by omega
    have ejz : j = zs.length := by omega
    refine thnF (T.done (X.blk sb Hb scope N fp) rfl rfl rfl hc j [] s' _ _ (fun _ _ => False) J (still J noJ) tj ⟨xs, tupAt, ge⟩) fun r s1 ⟨er, J1⟩ => ?_
    subst er
    have sets := setG_size (P := X.prog) (w := X.w) (zs := zs) (n := c) (a := D) (h := s1.heap) (by have := setT_get (X := X.blk sb Hb scope N fp) J1 upd_same; rw [ejz, upTo_all] at this; exact this)
    have noC : (upd Ha D (SetT X.prog X.w D (upTo zs j) c)) C = none := by
      have z : (upd Ha D (SetT X.prog X.w D (upTo zs j) c)) N.locals = none := J1.free
      rw [locN] at z
      exact z
    obtain ⟨m, hm, _⟩ := J1.loc
    have hm : s1.heap.Ns N.locals m := hm
    rw [locN] at hm
    have J2 : Inv X pins σ (upd Ha D (SetT X.prog X.w D (upTo zs j) c)) s1 := Ib.call' (ch := fp) J1.os J1.base J1.hok J1.bare fun b hb => ⟨(offB b hb).1.2.2.2.1, (offB b hb).1.2.1, (offB b hb).1.2.2.2.2.1, (offB b hb).1.2.2.2.2.2⟩
    obtain ⟨f0, f1, f2, f3, f4, f5⟩ := Ib.fpOk (Nat.le_of_eq hC) noC
    refine ⟨m, hm, fun g sm => ⟨.ref D, _, J2.turned (t' := s1.toks) (fun b o ne e => (sm.2 b ne).trans e) f0 f1 f3 f4 f5, rfl, ?_⟩⟩
    rw [ejz, upTo_all]
    exact fin D c sets.1 sets.2 noD
end
end NV
/-! L9a -/
set_option Elab.async false
set_option linter.all false
set_option maxRecDepth 100000
set_option maxHeartbeats 1000000
namespace NV
open PySem PySem.Spec PyProof.Rows L2
open C8 (pss_cut)
section
variable {X : Cx} {nm : Str} {st : Stmt} {ps ks : List Str} {sp : Sp} {p pos : Pos} {kws : List Keyword} {tk : TA}
theorem pe_kw0 {j k : Nat} (D : Fn X.K X.mg nm st ps) (G : FnOk X.prog X.w X.K X.mg X.base CX0 j D.f D.fd ps sp) (hr : Room k X.A) (hb : KBinds X.K D.fd ps ks (· ++ ·) (· ++ ·)) (hkw : PK X kws tk)
    (hk : j ≤ k := by decide) (hg : Gl X nm := by rfl) (hall : (backToKw pos (keywordEach kws X.env)).all (·.1.isSome) = true := by rfl) (hks : (backToKw pos (keywordEach kws X.env)).filterMap (·.1) = ks := by rfl) (hdb : (nm == ("__debug__" : Str)) = false := by decide)
    (hpl : ((backTo pos (starEach [] X.env)).any (·.1) || (backToKw pos (keywordEach kws X.env)).any (·.1.isNone)) = false := by rfl) :
    PE X (.Call (.Name nm p) [] kws pos) (tCallK sp (· ++ ·) (fun _ _ _ => False) tNil tk) := by
  refine ⟨fun pins s σ H Q I h => wpAny_Call_Name_kw (ld_glob I hg D.m ?_ hdb)⟩
  refine PySem.W.callWith_KW0 (h₀ := X.base) I.ok.mod.kin D.F.kp hall (thn (hkw.run pos pins s σ H _ I h) fun ws s2 ⟨zs, H2, I2, rz, q2⟩ => ⟨I2.kIn, ?_⟩) hpl
  rw [hks]
  exact run_fnk G (hr.mono hk) hb pass0 I2 .nil rz q2
theorem sltAE (K : PySem.W.Frag) (h : X.K = K := by rfl) : SlR X (rSlA K) := by
  rw [← h]; exact sl_tupA
end
/-! ### tables that grow beside -/
def Tabs (T : List Addr) (H : Hp) : Prop := ∀ p ∈ T, GxR.TabG H p
theorem Tabs.kp {T : List Addr} {H H' : Hp} (t : Tabs T H) (k : Kp [] H H') : Tabs T H' := fun p hp => by
  obtain ⟨ps, e, o⟩ := t p hp
  exact ⟨ps, k _ _ (by simp) e, o⟩
/-- n draws are left, the tables T stand -/
structure DT (D : Dr) (T : List Addr) (n : Nat) (H : Hp) : Prop where
  dr : DrAt D n H
  tb : Tabs T H
section
variable {D : Dr} {T : List Addr} {n m : Nat} {H H' : Hp}
theorem DT.off (d : DT D T n H) {p : Addr} (hp : p ∈ T) : p ∉ D.all := fun z => by
  obtain ⟨ps, e, _⟩ := d.tb p hp
  obtain ⟨_, large, items, left, turn, h1, h2, h3, _⟩ := d.dr
  rcases List.mem_cons.mp z with z | z
  · rw [z, h1] at e; cases e
  · rcases List.mem_cons.mp z with z | z
    · rw [z, h2] at e; cases e
    · rw [List.mem_singleton.mp z, h3] at e; cases e
theorem DT.less (d : DT D T n H) (h : m ≤ n) : DT D T m H := ⟨d.dr.less h, d.tb⟩
theorem DT.keep (d : DT D T n H) (k : Kp [] H H') : DT D T n H' := ⟨d.dr.keep k, d.tb.kp k⟩
theorem DT.draw (d : DT D T n H) (k : Kp D.ex H H') (d' : DrAt D m H') : DT D T m H' := ⟨d', fun p hp => by
  obtain ⟨ps, e, o⟩ := d.tb p hp
  exact ⟨ps, k _ _ (Dr.sub (d.off hp)) e, o⟩⟩
theorem DT.pkg (d : DT D T n H) (k : Kp T H H') (t : Tabs T H') : DT D T n H' := by
  refine ⟨?_, t⟩
  have nT : ∀ b ∈ D.all, b ∉ T := fun b hb z => d.off z hb
  obtain ⟨h0, large, items, left, turn, h1, h2, h3, h4⟩ := d.dr
  exact ⟨h0, large, items, left, turn, k _ _ (nT _ (by simp)) h1, k _ _ (nT _ (by simp)) h2, k _ _ (nT _ (by simp)) h3, h4⟩
theorem DT.live (d : DT D T n H) : Live (T ++ D.ex) H := fun b hb => by
  rcases List.mem_append.mp hb with z | z
  · obtain ⟨ps, e, _⟩ := d.tb b z
    rw [e]; exact fun q => nomatch q
  · obtain ⟨_, large, items, left, turn, h1, h2, _⟩ := d.dr
    rcases List.mem_cons.mp z with z | z
    · rw [z, h1]; exact fun q => nomatch q
    · rw [List.mem_singleton.mp z, h2]; exact fun q => nomatch q
theorem DT.fresh (d : DT D T n H) {p : Addr} (hp : H p = none) : p ∉ T ++ D.ex := d.live.fresh hp
end
/-- a comprehension over a list or a tuple whose element lays things and lets tables grow -/
theorem lc_growLT {K : PySem.W.Frag} {tt : TT} {te : TE} {i : Nat} {σ : L2.St} {C a : Addr} {T : List Addr} {xs : List V} {H1 : Hp} {Qd : Hp → Prop} (f : Nat → V) (ha : H1 a = some (.lst xs)) (nC : H1 C = none) (tb : Tabs T H1) (hz : xs.length < sizeLine)
    (htt : ∀ (H : Hp) (Q : Bool → Hp → Prop) (x : V), Q true H → tt ((wipe σ [i]).set i (some x)) H Q)
    (hte : ∀ (j : Nat) (x : V) (H : Hp) (Q : V → Hp → Prop), xs[j]? = some x → Kp T H1 H → Tabs T H → (∀ H', Kp T H H' → Tabs T H' → Q (f j) H') → te ((wipe σ [i]).set i (some x)) H Q)
    (hd : ∀ H', Kp T H1 H' → Tabs T H' → H' C = some (.lst ((List.range xs.length).map f)) → Qd H') :
    ∃ W : Nat → Nat → Hp → Prop, (∃ m, W 0 m (upd H1 C (.lst []))) ∧ ∀ i' m H, W i' m H →
      ((Itl K a).stop i' H ∧ Qd H) ∨ ((Itl K a).go i' H ∧ ∃ Nx : Hp → Prop, (∀ H', Nx H' → ∃ m', m' < m ∧ W (i' + 1) m' H') ∧ ∀ x H', (Itl K a).yld i' H x H' → gName i x (wipe σ [i]) H' fun σ2 H2 => wipe σ2 [i] = wipe σ [i] ∧ tt σ2 H2 fun b H3 =>
        if b = true then te σ2 H3 fun y H4 => ∃ acc, H4 C = some (.lst acc) ∧ acc.length < sizeLine ∧ Nx (upd H4 C (.lst (acc ++ [y]))) else Nx H3) := by
  have nT : ∀ {b : Addr} {xs : List V}, H1 b = some (.lst xs) → b ∉ T := fun e z => by
    obtain ⟨ps, e', _⟩ := tb _ z
    rw [e] at e'
    cases e'
  have CT : C ∉ T := fun z => by
    obtain ⟨ps, e', _⟩ := tb _ z
    rw [nC] at e'
    cases e'
  have step : ∀ {H : Hp}, Kp (C :: T) H1 H → Kp T H1 H := fun k b o hb e => k b o (fun z => by
    rcases List.mem_cons.mp z with z | z
    · rw [z, nC] at e; cases e
    · exact hb z) e
  refine lc_list (K := K) (a := a) (xs := xs) (fun j H' => Kp (C :: T) H1 H' ∧ Tabs T H' ∧ H' C = some (.lst ((List.range j).map f))) ⟨Kp.laid nC, tb.kp (Kp.laid nC), upd_same⟩ (fun j H' _ e => .inl (.inl (step e.1 _ _ (nT ha) ha))) (fun j x H' hx e => ?_) (fun H' e => hd H' (step e.1) e.2.1 e.2.2)
  obtain ⟨k1, t1, e1⟩ := e
  have hj : j < xs.length := (List.getElem?_eq_some_iff.mp hx).1
  refine ⟨wipe_again, htt _ _ x ?_⟩
  refine iteT (hte j x _ _ hx (step k1) t1 fun H3 k3 t3 => ⟨_, k3 _ _ CT e1, ?_, ?_⟩)
  · rw [List.length_map, List.length_range]
    omega
  · refine ⟨(k1.trans (k3.mono fun b hb => List.mem_cons_of_mem _ hb)).trans (Kp.put (by simp)), fun p hp => ?_, ?_⟩
    · obtain ⟨ps, e', o⟩ := t3 p hp
      exact ⟨ps, by rw [upd_ne (fun z => CT (by rw [← z]; exact hp))]; exact e', o⟩
    · rw [upd_same, List.range_succ, List.map_append]
      rfl
theorem lc_growTT {K : PySem.W.Frag} {tt : TT} {te : TE} {i : Nat} {σ : L2.St} {C a : Addr} {T : List Addr} {xs : List V} {H1 : Hp} {Qd : Hp → Prop} (f : Nat → V) (ha : H1 a = some (.tup xs)) (nC : H1 C = none) (tb : Tabs T H1) (hz : xs.length < sizeLine)
    (htt : ∀ (H : Hp) (Q : Bool → Hp → Prop) (x : V), Q true H → tt ((wipe σ [i]).set i (some x)) H Q)
    (hte : ∀ (j : Nat) (x : V) (H : Hp) (Q : V → Hp → Prop), xs[j]? = some x → Kp T H1 H → Tabs T H → (∀ H', Kp T H H' → Tabs T H' → Q (f j) H') → te ((wipe σ [i]).set i (some x)) H Q)
    (hd : ∀ H', Kp T H1 H' → Tabs T H' → H' C = some (.lst ((List.range xs.length).map f)) → Qd H') :
    ∃ W : Nat → Nat → Hp → Prop, (∃ m, W 0 m (upd H1 C (.lst []))) ∧ ∀ i' m H, W i' m H →
      ((Itt K a).stop i' H ∧ Qd H) ∨ ((Itt K a).go i' H ∧ ∃ Nx : Hp → Prop, (∀ H', Nx H' → ∃ m', m' < m ∧ W (i' + 1) m' H') ∧ ∀ x H', (Itt K a).yld i' H x H' → gName i x (wipe σ [i]) H' fun σ2 H2 => wipe σ2 [i] = wipe σ [i] ∧ tt σ2 H2 fun b H3 =>
        if b = true then te σ2 H3 fun y H4 => ∃ acc, H4 C = some (.lst acc) ∧ acc.length < sizeLine ∧ Nx (upd H4 C (.lst (acc ++ [y]))) else Nx H3) := by
  have nT : ∀ {b : Addr} {xs : List V}, H1 b = some (.tup xs) → b ∉ T := fun e z => by
    obtain ⟨ps, e', _⟩ := tb _ z
    rw [e] at e'
    cases e'
  have CT : C ∉ T := fun z => by
    obtain ⟨ps, e', _⟩ := tb _ z
    rw [nC] at e'
    cases e'
  have step : ∀ {H : Hp}, Kp (C :: T) H1 H → Kp T H1 H := fun k b o hb e => k b o (fun z => by
    rcases List.mem_cons.mp z with z | z
    · rw [z, nC] at e; cases e
    · exact hb z) e
  refine lc_tup (K := K) (a := a) (xs := xs) (fun j H' => Kp (C :: T) H1 H' ∧ Tabs T H' ∧ H' C = some (.lst ((List.range j).map f))) ⟨Kp.laid nC, tb.kp (Kp.laid nC), upd_same⟩ (fun j H' _ e => .inl (.inl (step e.1 _ _ (nT ha) ha))) (fun j x H' hx e => ?_) (fun H' e => hd H' (step e.1) e.2.1 e.2.2)
  obtain ⟨k1, t1, e1⟩ := e
  have hj : j < xs.length := (List.getElem?_eq_some_iff.mp hx).1
  refine ⟨wipe_again, htt _ _ x ?_⟩
  refine iteT (hte j x _ _ hx (step k1) t1 fun H3 k3 t3 => ⟨_, k3 _ _ CT e1, ?_, ?_⟩)
  · rw [List.length_map, List.length_range]
    omega
  · refine ⟨(k1.trans (k3.mono fun b hb => List.mem_cons_of_mem _ hb)).trans (Kp.put (by simp)), fun p hp => ?_, ?_⟩
    · obtain ⟨ps, e', o⟩ := t3 p hp
      exact ⟨ps, by rw [upd_ne (fun z => CT (by rw [← z]; exact hp))]; exact e', o⟩
    · rw [upd_same, List.range_succ, List.map_append]
      rfl
/-- the package's promises, its tables T beside -/
def spIsLogT (T : List Addr) : Sp := fun vs H Q _ => ∃ (v : V) (d : PyData) (ex : List Addr), vs = [v] ∧ Rp ex H d v ∧ Good d ∧ (∀ p ∈ T, p ∈ ex) ∧ Tabs T H ∧ ∀ H', Kp T H H' → Tabs T H' → Q (.bl (logD' d)) H'
def spIsEntryT (T : List Addr) : Sp := fun vs H Q _ => ∃ (v : V) (d : PyData) (ex : List Addr), vs = [v] ∧ Rp ex H d v ∧ Good d ∧ (∀ p ∈ T, p ∈ ex) ∧ Tabs T H ∧ ∀ H', Kp T H H' → Tabs T H' → Q (.bl (entryD d)) H'
end NV
/-! Q4 -/
set_option Elab.async false
set_option linter.all false
set_option maxRecDepth 100000
set_option maxHeartbeats 600000
/-! the package's is_log -/
namespace NV
open PySem PySem.Spec PyProof.Rows L2
open C8 (pss_cut pe_gc)
abbrev sIsLogWithin : Stmt := topS 25
theorem scIsLogWithin : FnScope ["value", "most", "known", "entry"] ["value", "most"] (defScope sIsLogWithin) := ⟨rfl, rfl, rfl, by decide +kernel, rfl, by decide +kernel, by decide +kernel⟩
abbrev sIsLog : Stmt := topS 26
theorem scIsLog : FnScope ["value"] ["value"] (defScope sIsLog) := ⟨rfl, rfl, rfl, by decide +kernel, rfl, by decide +kernel, by decide +kernel⟩
/-- a log but for its length -/
def logDn (m : Nat) : PyData → Bool
  | .tuple ds => decide (ds.length ≤ m) && ds.all entryD && decide ((ds.map idOfD).Nodup)
  | _ => false
theorem logDn_no {m : Nat} {d : PyData} (h : isD "tuple" d = false) : logDn m d = false := by
  cases d with
  | tuple ds => exact absurd h (by simp [isD, tyN])
  | _ => rfl
theorem logDn_60 (d : PyData) : logDn 60 d = logD' d := by cases d <;> rfl
mutual
theorem Rp.apart {ex : List Addr} {H : Hp} {p : Addr} (hp : H p = none) : ∀ (d : PyData) (v : V), Rp ex H d v → Rp (p :: ex) H d v
  | .none, _, h => h
  | .bool _, _, h => h
  | .int _, _, h => h
  | .str _, _, h => h
  | .list ds, v, h => by
    obtain ⟨a, xs, e, na, h1, h2⟩ := h
    exact ⟨a, xs, e, fun z => (List.mem_cons.mp z).elim (fun q => by rw [q, hp] at h1; cases h1) na, h1, RpAll.apart hp ds xs h2⟩
  | .tuple ds, v, h => by
    obtain ⟨a, xs, e, na, h1, h2⟩ := h
    exact ⟨a, xs, e, fun z => (List.mem_cons.mp z).elim (fun q => by rw [q, hp] at h1; cases h1) na, h1, RpAll.apart hp ds xs h2⟩
  | .dict kvs, v, h => by
    obtain ⟨e0, a, e, na, h1⟩ := h
    exact ⟨e0, a, e, fun z => (List.mem_cons.mp z).elim (fun q => by rw [q, hp] at h1; cases h1) na, h1⟩
theorem RpAll.apart {ex : List Addr} {H : Hp} {p : Addr} (hp : H p = none) : ∀ (ds : List PyData) (vs : List V), RpAll ex H ds vs → RpAll (p :: ex) H ds vs
  | [], _, h => h
  | d :: ds, vs, h => by
    obtain ⟨v, ws, e, h1, h2⟩ := h
    exact ⟨v, ws, e, Rp.apart hp d v h1, RpAll.apart hp ds ws h2⟩
end
/-- a predicate of data, asked by a def that only lays new things -/
def spAskD (f : PyData → Bool) : Sp := fun vs H Q _ => ∃ (v : V) (d : PyData) (ex : List Addr), vs = [v] ∧ Rp ex H d v ∧ niceD d = true ∧ ∀ H', Kp [] H H' → Q (.bl (f d)) H'
def spAskN : Sp := fun vs H Q _ => ∃ (v : V) (d : PyData) (m : Nat) (ex : List Addr), vs = [v, .int (m : Nat)] ∧ m ≤ 900 ∧ Rp ex H d v ∧ niceD d = true ∧ ∀ H', Kp [] H H' → Q (.bl (logDn m d)) H'
section
variable {P : Program} {w : World} {K : PySem.W.Frag} {mg : Str → Option Value} {base : Heap}
theorem ok_plogw (DIsLogWithin : Fn K mg "is_log_within" sIsLogWithin ["value", "most"]) (DIsEntryWith : Fn K mg "is_entry_with" sIsEntryWith ["value", "known"]) (b_isinstance : mg "isinstance" = none) (b_len : mg "len" = none) (b_tuple : mg "tuple" = none) (g2 : ∃ u, mg "ID" = some u ∧ L2.RelV (.int 1) u)
    (GIsEntryWith : FnOk P w K mg base CX0 4 DIsEntryWith.f DIsEntryWith.fd ["value", "known"] spEntryK) : FnOk P w K mg base CX0 5 DIsLogWithin.f DIsLogWithin.fd ["value", "most"] spAskN := by
  refine DIsLogWithin.F.ok scIsLogWithin (fun vs H Q E h => ?_) (fun cdv A outer s H vs Q E hr h => ?_)
  · obtain ⟨v, d, m, ex, rfl, _⟩ := h
    rfl
  obtain ⟨v, d, m, ex, rfl, hm, hd, hn, q⟩ := h
  refine ⟨_, pss_cons (ps_if (PW.pt (pw_or (pt_not (pt_val (pe_callB (cr_isD (T := "tuple") (by decide)) (by rfl) b_isinstance (by decide +kernel) (pa_cons (pv 0) (pa_cons (pe_bltn (v := .ty "tuple") rfl b_tuple (by rfl) rfl) pa_nil))))) (pw_or1 (pt_cmpR op_gt (pe_callB (lenE K) (by rfl) b_len (by decide +kernel) (pa_cons (pv 0) pa_nil)) (pv 1) (nomark _)))))
      (pss_one (ps_ret pe_bl))
      pss_nil)
      (pss_cons (ps_set (i := 2) scIsLogWithin.nd rfl (.inl rfl) pe_dnewK)
      (pss_cons (ps_for PassesOwn.never rfl (piTupE K (pv 0)) (pg_name (i := 3) scIsLogWithin.nd rfl (.inl rfl))
      (pss_one (ps_if (pt_not (pt_val (pe_fn DIsEntryWith GIsEntryWith hr (pa_cons (pv 3) (pa_cons (pv 2) pa_nil)))))
      (pss_one (ps_ret pe_bl))
      pss_nil)))
      (pss_one (ps_ret (pe_cmpR op_eq (pe_callB (lenTxE P w) (by rfl) b_len (by decide +kernel) (pa_cons (pe_setC (i := 3) (own := [("entry", 3)]) K P w rfl scIsLogWithin.nd (pv 0) (blkOk_by (N := ["value", "most", "known", "entry"]) (sc := defScope sIsLogWithin) (by decide +kernel)) (fun _ _ _ _ _ => pg_name (i := 3) scIsLogWithin.nd rfl (.inl rfl)) (fun _ _ _ _ _ => pe_ix (ixtE K) (pv 3) (pe_gc (v := .int 1) rfl g2) (fun _ _ => rfl))) pa_nil)) (pe_callB (lenE K) (by rfl) b_len (by decide +kernel) (pa_cons (pv 0) pa_nil)) (nomark _)))))), ?_⟩
  refine ⟨_, rfl, v, d, ex, rfl, hd, _, rfl, ?_⟩
  cases hs : isD "tuple" d with
  | false =>
    refine iteT ?_
    rw [← logDn_no hs]
    exact q H Kp.refl
  | true =>
    obtain ⟨ds, rfl⟩ := tup_of_isD hs
    obtain ⟨a, xs, rfl, na, ha, hxs⟩ := hd
    have hl := hxs.length
    have n2 := nice_tup hn
    have ld : ∀ b1 b2 b3 : Bool, decide (ds.length ≤ m) = b1 → ds.all entryD = b2 → decide ((ds.map idOfD).Nodup) = b3 → logDn m (.tuple ds) = (b1 && b2 && b3) := fun b1 b2 b3 z1 z2 z3 => by
      show (decide (ds.length ≤ m) && ds.all entryD && decide ((ds.map idOfD).Nodup)) = _
      rw [z1, z2, z3]
    refine iteF ⟨_, rfl, a, xs, rfl, .inr (.inl (.inl ha)), _, rfl, _, _, rfl, rfl, _, rfl, ?_⟩
    by_cases h60 : (xs.length : Int) > (m : Nat)
    · rw [decide_eq_true h60]
      refine iteT ?_
      have e := ld false _ _ (decide_eq_false (by omega)) rfl rfl
      rw [Bool.false_and, Bool.false_and] at e
      rw [← e]
      exact q H Kp.refl
    · rw [decide_eq_false h60]
      refine iteF fun kd nk => ?_
      have k0 : Kp [] H (upd H kd (.dK [])) := Kp.laid nk
      have kn0 : Known kd 0 (upd H kd (.dK [])) := ⟨[], upd_same, (fun z hz => by cases hz), Nat.le_refl _⟩
      have hx0 : RpAll (kd :: ex) (upd H kd (.dK [])) ds xs := RpAll.keep (k0.mono (by simp)) _ _ (RpAll.apart nk _ _ hxs)
      have back : ∀ {H' : Hp}, Kp [kd] (upd H kd (.dK [])) H' → Kp [] H H' := fun k => Kp.drop ((k0.mono (by simp)).trans k) nk
      generalize upd H kd (.dK []) = H0 at k0 kn0 hx0 back
      have akd : a ≠ kd := fun z => by rw [z, nk] at ha; cases ha
      have ha0 : H0 a = some (.tup xs) := k0 _ _ (by simp) ha
      have aT : ∀ {H' : Hp}, Kp [kd] H0 H' → SqT K H' a xs := fun k => .inl (.inl (k _ _ (by simpa using akd) ha0))
      refine ⟨_, rfl, a, rfl, ⟨_, .inl (.inl ha0)⟩, for_tup (K := K) (a := a) (xs := xs) (fun j σ H' => ∃ entry : Option V, σ = [some (.ref a), some (.int (m : Nat)), some (.ref kd), entry] ∧ Kp [kd] H0 H' ∧ Known kd (6 * j) H' ∧ ∀ d ∈ ds.take j, entryD d = true)
        ⟨none, rfl, Kp.refl, kn0, by simp⟩ ?_ ?_ ?_⟩
      · rintro j σ H' hj ⟨_, _, k, _⟩
        exact aT k
      · rintro j x σ H' hx ⟨entry, rfl, k, kj, all⟩
        have hj : j < xs.length := (List.getElem?_eq_some_iff.mp hx).1
        obtain ⟨e, he1, he2⟩ := RpAll.back hx0 hx
        have ke := Rp.keep (k.mono (by simp)) _ _ he2
        refine ⟨_, rfl, _, rfl, x, e, kd :: ex, kd, 6 * j, rfl, ke, n2 e (List.mem_of_getElem? he1), by simp, kj, by omega, fun H2 k2 kn2 => ⟨_, rfl, ?_⟩⟩
        cases hw : entryD e with
        | false =>
          refine iteT ?_
          have el := ld _ false _ rfl (by
            rw [← Bool.not_eq_true, List.all_eq_true]
            intro h
            rw [h e (List.mem_of_getElem? he1)] at hw
            cases hw) rfl
          rw [Bool.and_false, Bool.false_and] at el
          rw [← el]
          exact q H2 (back (k.trans k2))
        | true =>
          refine iteF ⟨_, rfl, k.trans k2, kn2.more (by omega), fun d hd => ?_⟩
          rw [List.take_add_one, he1] at hd
          rcases List.mem_append.mp hd with h | h
          · exact all d h
          · rw [show d = e by simpa using h]; exact hw
      · rintro σ H' ⟨entry, rfl, k, kj, all⟩
        rw [← hl, List.take_length] at all
        have hall : ds.all entryD = true := List.all_eq_true.mpr all
        have ids : ∀ j (hj : j < ds.length), (ds.map idOfD)[j]? = some (idOfD ds[j]) := fun j hj => by rw [List.getElem?_map, List.getElem?_eq_getElem hj]; rfl
        have hx1 : RpAll (kd :: ex) H' ds xs := RpAll.keep (k.mono (by simp)) _ _ hx0
        refine ⟨_, rfl, a, rfl, ⟨_, aT k⟩, a, xs, ds.map idOfD, rfl, aT k, by rw [List.length_map]; exact hl, by rw [List.length_map]; omega, fun j x z H2 Q2 hx hz k2 q2 => ?_, fun D n hn1 hn2 nD => ?_⟩
        · have hj : j < ds.length := by rw [hl]; exact (List.getElem?_eq_some_iff.mp hx).1
          obtain ⟨e, he1, he2⟩ := RpAll.back hx1 hx
          obtain ⟨kk, zz, r, rfl, _⟩ := entry_shape (all e (List.mem_of_getElem? he1))
          obtain ⟨b, ys, rfl, nb, hb, hys⟩ := Rp.keep (k2.mono (by simp)) _ _ he2
          have ez : zz = z := by
            rw [List.getElem?_map, he1] at hz
            exact Option.some.inj hz
          refine ⟨_, rfl, ixD (j := 1) rfl hb hys rfl fun vz rz => ?_⟩
          obtain rfl : vz = .str zz := rz
          rw [ez]
          exact q2
        · have kD : Kp [] H' (upd H' D (SetT P w D (fun j => decide (j ∈ ds.map idOfD)) n)) := Kp.laid nD
          refine ⟨D, _, n, rfl, upd_same, _, rfl, a, xs, rfl, .inr (aT (k.trans (kD.mono (by simp)))), rfl, ?_⟩
          have e : decide (V.int (n : Int) = V.int (xs.length : Int)) = logDn m (.tuple ds) := by
            rw [ld true true _ (decide_eq_true (by omega)) hall rfl, Bool.true_and, Bool.true_and, decide_eq_decide]
            rw [List.length_map] at hn2
            rw [← hn2, ← hl]
            exact ⟨fun z => by injection z with z; omega, fun z => by rw [z]⟩
          rw [e]
          exact q _ ((back k).trans kD)
theorem ok_plog (DIsLog : Fn K mg "is_log" sIsLog ["value"]) (DIsLogWithin : Fn K mg "is_log_within" sIsLogWithin ["value", "most"]) (g1 : ∃ u, mg "MOST_ENTRIES" = some u ∧ L2.RelV (.int 60) u)
    (GIsLogWithin : FnOk P w K mg base CX0 5 DIsLogWithin.f DIsLogWithin.fd ["value", "most"] spAskN) : FnOk P w K mg base CX0 6 DIsLog.f DIsLog.fd ["value"] (spAskD logD') := by
  refine DIsLog.F.ok scIsLog (fun vs H Q E h => ?_) (fun cdv A outer s H vs Q E hr h => ?_)
  · obtain ⟨v, d, ex, rfl, _⟩ := h
    rfl
  obtain ⟨v, d, ex, rfl, hd, hn, q⟩ := h
  refine ⟨_, pss_one (ps_ret (pe_fn DIsLogWithin GIsLogWithin hr (pa_cons (pv 0) (pa_cons (pe_gc (v := .int 60) rfl g1) pa_nil)))), ?_⟩
  exact ⟨_, rfl, v, d, 60, ex, rfl, by decide, hd, hn, fun H' k => by rw [logDn_60]; exact q H' k⟩
end
end NV
/-! EntIx -/
set_option Elab.async false
set_option linter.all false
set_option maxRecDepth 100000
set_option maxHeartbeats 600000
/-! an entry's items by their places, and small rules -/
namespace NV
open PySem PySem.Spec PyProof.Rows L2
open C8 (pss_cut pe_gc)
theorem Live.kp0 {ex : List Addr} {H H' : Hp} (l : Live ex H) (k : Kp [] H H') : Live ex H' := fun b hb e => by
  cases h : H b with
  | none => exact l b hb h
  | some u => rw [k b u (by simp) h] at e; cases e
/-- the places of an entry's items -/
theorem ent_writes {e : Ent} (h : e.isW = true) : ∃ ds, e.data = .tuple ds ∧ ds[3]? = some (.tuple (e.ws.map .str)) ∧ ds[4]? = some (prD e.pr) := by
  cases e with
  | wr id rs ws pr => exact ⟨_, rfl, rfl, rfl⟩
  | qu id cs => cases h
theorem ent_reads (e : Ent) : ∃ ds, e.data = .tuple ds ∧ ds[1]? = some (.str e.id) ∧ ds[2]? = some (.tuple (e.rs.map .str)) := by
  cases e with
  | wr id rs ws pr => exact ⟨_, rfl, rfl, rfl⟩
  | qu id cs => exact ⟨_, rfl, rfl, rfl⟩
theorem strs_of {ex : List Addr} {H : Hp} : ∀ {zs : List Str} {xs : List V}, RpAll ex H (zs.map PyData.str) xs → xs = zs.map V.str
  | [], _, h => h
  | z :: zs, _, h => by
    obtain ⟨v, ws, rfl, h1, h2⟩ := h
    obtain rfl : v = .str z := h1
    rw [strs_of h2]
    rfl
/-- an item of an entry, by its place -/
theorem ent_ix {K : PySem.W.Frag} {ex : List Addr} {H : Hp} {e : Ent} {v : V} {ds : List PyData} {d : PyData} {j : Nat} {i : Int} {Q : VK} (r : Rp ex H e.data v) (ed : e.data = .tuple ds) (hj : ds[j]? = some d) (ei : i = (j : Int)) (q : ∀ u, Rp ex H d u → Q u H) : rIxT K v (.int i) H Q := by
  rw [ed] at r
  obtain ⟨a, xs, rfl, _, ha, hx⟩ := r
  exact ixD ei ha hx hj q
theorem c_of {v : V} {σ : L2.St} {H : Hp} {Q : VK} (h : Q v H) : tC v σ H Q := h
theorem ent_kind (e : Ent) : ∃ ds, e.data = .tuple ds ∧ ds[0]? = some (.str (if e.isW then "write" else "query")) := by
  cases e with
  | wr id rs ws pr => exact ⟨_, rfl, rfl⟩
  | qu id cs => exact ⟨_, rfl, rfl⟩
theorem pg_tupE {X : Cx} (K : PySem.W.Frag) {es : List Expr} {k : Nat} {t : TGs} {n : Nat} {pos : Pos} (hc : X.calm = true) (h : PGs X es t) (hK : X.K = K := by rfl)
    (hn : (assignEach es X.env).length = n := by rfl) (hst : (assignEach es X.env).findIdx? (·.1) = none := by rfl) : PG X (.Tuple es k pos) (gTup K n t) := by
  rw [← hK]
  exact pg_tup hc h hn hst
/-- a statement that is never reached -/
theorem ps_dead {X : Cx} (st : Stmt) : PS X st (fun _ _ _ => False) := ⟨fun _ _ _ _ _ _ h => h.elim⟩
theorem yes_on {σ : L2.St} {H : Hp} {A B : Hp → Prop} (h : A H) : tYes σ H (fun b H3 => if b = true then A H3 else B H3) := by
  delta tYes
  dsimp only
  rw [if_pos rfl]
  exact h
theorem ok_cells_nd {l : Nat} {cs : List Str} (h : CellsOk l cs) : cs.Nodup := h.asc.nodup
theorem Ent.Ok.rs {e : Ent} (h : e.Ok) : e.rs.Nodup ∧ e.rs.length ≤ 3 := by
  cases e with
  | wr id rs ws pr => exact ⟨h.2.1.asc.nodup, h.2.1.hi⟩
  | qu id cs => exact ⟨h.2.asc.nodup, h.2.hi⟩
theorem Ent.Ok.ws {e : Ent} (h : e.Ok) : e.ws.Nodup ∧ e.ws.length ≤ 3 := by
  cases e with
  | wr id rs ws pr => exact ⟨h.2.2.1.asc.nodup, h.2.2.1.hi⟩
  | qu id cs => exact ⟨.nil, Nat.zero_le _⟩
theorem nodup_take {l : List Str} {j : Nat} {c : Str} (nd : l.Nodup) (h : l[j]? = some c) : c ∉ l.take j := fun z => by
  obtain ⟨i, hi, e⟩ := List.mem_iff_getElem.mp z
  rw [List.length_take] at hi
  rw [List.getElem_take] at e
  have hj := (List.getElem?_eq_some_iff.mp h)
  obtain ⟨hj, e2⟩ := hj
  have := (List.nodup_iff_pairwise_ne.mp nd)
  rw [List.pairwise_iff_getElem] at this
  exact this i j (by omega) hj (by omega) (by rw [e, e2])
/-- a comprehension by what holds at each turn -/
theorem lc_inv {J : It} {g : TG} {tt : TT} {te : TE} {vs : List Nat} {σ : L2.St} {C : Addr} {H1 : Hp} {Qd : Hp → Prop} (n : Nat) (Pv : Nat → Hp → Prop) (h0 : Pv 0 (upd H1 C (.lst []))) (hd : ∀ H, Pv n H → J.stop n H ∧ Qd H) (hgo : ∀ i H, i < n → Pv i H → J.go i H)
    (hs : ∀ i H x H', i < n → Pv i H → J.yld i H x H' → g x (wipe σ vs) H' fun σ2 H2 => wipe σ2 vs = wipe σ vs ∧ tt σ2 H2 fun b H3 => if b = true then te σ2 H3 fun y H4 => ∃ acc, H4 C = some (.lst acc) ∧ acc.length < sizeLine ∧ Pv (i + 1) (upd H4 C (.lst (acc ++ [y]))) else Pv (i + 1) H3) :
    ∃ W : Nat → Nat → Hp → Prop, (∃ m, W 0 m (upd H1 C (.lst []))) ∧ ∀ i m H, W i m H →
      (J.stop i H ∧ Qd H) ∨ (J.go i H ∧ ∃ Nx : Hp → Prop, (∀ H', Nx H' → ∃ m', m' < m ∧ W (i + 1) m' H') ∧ ∀ x H', J.yld i H x H' → g x (wipe σ vs) H' fun σ2 H2 => wipe σ2 vs = wipe σ vs ∧ tt σ2 H2 fun b H3 =>
        if b = true then te σ2 H3 fun y H4 => ∃ acc, H4 C = some (.lst acc) ∧ acc.length < sizeLine ∧ Nx (upd H4 C (.lst (acc ++ [y]))) else Nx H3) := by
  refine ⟨fun i m H => m = n - i ∧ i ≤ n ∧ Pv i H, ⟨n, by simp, Nat.zero_le _, h0⟩, ?_⟩
  rintro i m H ⟨rfl, hi, p⟩
  rcases Nat.lt_or_ge i n with lt | ge
  · exact .inr ⟨hgo i H lt p, Pv (i + 1), fun H' q => ⟨n - (i + 1), by omega, rfl, lt, q⟩, fun x H' y => hs i H x H' lt p y⟩
  · obtain rfl : i = n := by omega
    exact .inl (hd H p)
end NV
/-! W2 -/
set_option Elab.async false
set_option linter.all false
set_option maxRecDepth 100000
set_option maxHeartbeats 600000
/-! what one change of a log does to the costs -/
namespace NV
open PySem PySem.Spec PyProof.Rows L2
def Below (o : Str → Way) : Prop := ∀ c b, costW (o c) = some b → 0 ≤ b
theorem below_from {o : Str → Way} (h : Below o) (cs : List Str) : ∀ b, costW (wayFrom o cs) = some b → 0 ≤ b := by
  intro b e
  by_cases hn : cs.filterMap o = []
  · have q := (minW_iff (cs.filterMap o)).1 hn
    unfold wayFrom at e
    rw [q] at e
    cases e
  · obtain ⟨m, hm, hin, _⟩ := (minW_iff (cs.filterMap o)).2 hn
    unfold wayFrom at e
    rw [hm] at e
    obtain ⟨c, _, hc⟩ := List.mem_filterMap.mp hin
    exact h c b (by rw [hc]; exact e)
theorem below_step {o : Str → Way} (h : Below o) {e : Ent} (ok : e.Ok) : Below (stepB e o) := by
  have reads : ∀ (w : Way) (u : Str → Way), (∀ b, costW w = some b → 0 ≤ b) → Below u → Below (readers e w u) := by
    intro w u hw hu c b hb
    unfold readers at hb
    by_cases hc : c ∈ e.rs
    · rw [if_pos hc] at hb
      match w, hw, hb with
      | none, _, hb => exact hu c b hb
      | some (k, p), hw, hb =>
        rw [cost_better] at hb
        have hk := hw k rfl
        cases hx : costW (u c) with
        | none => rw [hx] at hb; exact (Option.some.inj hb) ▸ hk
        | some j =>
          rw [hx] at hb
          have hj := hu c j hx
          have hb : min k j = b := Option.some.inj hb
          omega
    · rw [if_neg hc] at hb
      exact hu c b hb
  match e, ok with
  | .wr id rs ws pr, ok =>
    refine reads _ _ (below_from h _) fun c b hb => ?_
    unfold blocked at hb
    by_cases hc : c ∈ (Ent.wr id rs ws pr).ws
    · rw [if_pos hc] at hb
      obtain ⟨_, _, _, hp⟩ := ok
      cases ho : o c with
      | none => rw [ho] at hb; cases hb
      | some x =>
        rw [ho] at hb
        have hx := h c x.1 (by rw [ho]; rfl)
        match pr, hp, hb with
        | some i, hp, hb =>
          have hi := (hp i rfl).1
          have hb : x.1 + i = b := Option.some.inj hb
          omega
    · rw [if_neg hc] at hb
      exact h c b hb
  | .qu id cs, _ => exact reads (some (0, [])) o (fun b e => by have e : (0 : Int) = b := Option.some.inj e; omega) h
theorem below_end : Below endW := fun c b e => by
  have e : (0 : Int) = b := Option.some.inj e
  omega
/-- one more entry at the end -/
theorem more_on {e : Ent} (ok : e.Ok) (c : Str) : leC 0 (costW (onB [] c)) (costW (onB [e] c)) := fun b hb => ⟨0, rfl, by have := below_step below_end ok c b hb; omega⟩
theorem readers_le {e : Ent} {s : Int} (hs : 0 ≤ s) (w : Way) {u : Str → Way} {z : Way} {c : Str} (h : leC s (costW (u c)) (costW z)) : leC s (costW (readers e w u c)) (costW z) := by
  unfold readers
  by_cases hc : c ∈ e.rs
  · rw [if_pos hc]
    match w with
    | none => exact h
    | some (k, p) => exact better_le hs _ h
  · rw [if_neg hc]
    exact h
/-- a write's price is the most that it adds -/
theorem write_on {id : Str} {rs ws : List Str} {i : Int} (hi : 0 ≤ i) (rest : List Ent) (c : Str) : leC i (costW (onB (.wr id rs ws (some i) :: rest) c)) (costW (onB rest c)) := by
  refine readers_le hi _ ?_
  unfold blocked
  by_cases hc : c ∈ (Ent.wr id rs ws (some i)).ws
  · rw [if_pos hc]
    exact cost_past_self _
  · rw [if_neg hc]
    exact leC.refl hi _
/-- a query adds nothing -/
theorem query_on {id : Str} {cs : List Str} (rest : List Ent) (c : Str) : leC 0 (costW (onB (.qu id cs :: rest) c)) (costW (onB rest c)) := readers_le (e := .qu id cs) (c := c) (Int.le_refl 0) (some (0, [])) (u := onB rest) (leC.refl (Int.le_refl 0) _)
/-- a sealed write lets nothing past -/
theorem sealed_on {id : Str} {rs ws : List Str} {pr : Option Int} (rest : List Ent) (c : Str) : leC 0 (costW (onB (.wr id rs ws pr :: rest) c)) (costW (onB (.wr id rs ws none :: rest) c)) := by
  show leC 0 (costW (readers (.wr id rs ws pr) (wayFrom (onB rest) ws) (blocked (.wr id rs ws pr) (onB rest)) c)) (costW (readers (.wr id rs ws none) (wayFrom (onB rest) ws) (blocked (.wr id rs ws none) (onB rest)) c))
  have hu : leC 0 (costW (blocked (.wr id rs ws pr) (onB rest) c)) (costW (blocked (.wr id rs ws none) (onB rest) c)) := by
    unfold blocked
    by_cases hc : c ∈ ws
    · rw [if_pos (show c ∈ (Ent.wr id rs ws pr).ws from hc), if_pos (show c ∈ (Ent.wr id rs ws none).ws from hc)]
      intro b e
      cases ho : onB rest c with
      | none => rw [ho] at e; cases e
      | some x => rw [ho] at e; cases e
    · rw [if_neg (show c ∉ (Ent.wr id rs ws pr).ws from hc), if_neg (show c ∉ (Ent.wr id rs ws none).ws from hc)]
      exact leC.refl (Int.le_refl 0) _
  unfold readers
  by_cases hc : c ∈ rs
  · rw [if_pos (show c ∈ (Ent.wr id rs ws pr).rs from hc), if_pos (show c ∈ (Ent.wr id rs ws none).rs from hc)]
    match wayFrom (onB rest) ws with
    | none => exact hu
    | some (k, p) => exact le_better (by omega) hu
  · rw [if_neg (show c ∉ (Ent.wr id rs ws pr).rs from hc), if_neg (show c ∉ (Ent.wr id rs ws none).rs from hc)]
    exact hu
/-! ### the law's claims -/
theorem nodup_mid {pre rest : List Ent} {e : Ent} (nd : ((pre ++ e :: rest).map Ent.id).Nodup) : ((pre ++ rest).map Ent.id).Nodup := by
  refine nd.sublist (List.Sublist.map _ ?_)
  exact List.Sublist.append_left (List.sublist_cons_self e rest) pre
/-- an entry at the end: no cost falls -/
theorem last_up {es : List Ent} {e : Ent} (ok : e.Ok) (nd : ((es ++ [e]).map Ent.id).Nodup) : rises (costsL es) (costsL (es ++ [e])) 0 := by
  have := costs_pre (Int.le_refl 0) (es := []) (es' := [e]) (more_on ok) (fun n x y hx => by cases hx) es (by rw [List.append_nil]; exact nd.sublist (List.Sublist.map _ (List.sublist_append_left es [e]))) nd
  rw [List.append_nil] at this
  exact this
/-- a write at the end: no cost rises by more than its price -/
theorem last_down {es : List Ent} {id : Str} {rs ws : List Str} {i : Int} (hi : 0 ≤ i) (nd : ((es ++ [Ent.wr id rs ws (some i)]).map Ent.id).Nodup) : rises (costsL (es ++ [Ent.wr id rs ws (some i)])) (costsL es) i := by
  have := costs_pre hi (es := [Ent.wr id rs ws (some i)]) (es' := []) (write_on hi []) (fun n x y _ hy => by cases hy) es nd (by rw [List.append_nil]; exact nd.sublist (List.Sublist.map _ (List.sublist_append_left es _)))
  rw [List.append_nil] at this
  exact this
theorem rest_nodup {pre rest : List Ent} {e : Ent} (nd : ((pre ++ e :: rest).map Ent.id).Nodup) : (rest.map Ent.id).Nodup := nd.sublist (List.Sublist.map _ ((List.sublist_cons_self e rest).trans (List.sublist_append_right pre _)))
theorem tail_nodup {pre rest : List Ent} {e : Ent} (nd : ((pre ++ e :: rest).map Ent.id).Nodup) : ((e :: rest).map Ent.id).Nodup := nd.sublist (List.Sublist.map _ (List.sublist_append_right pre _))
/-- a query left out: no cost falls -/
theorem no_query {pre rest : List Ent} {id : Str} {cs : List Str} (nd : ((pre ++ .qu id cs :: rest).map Ent.id).Nodup) : rises (costsL (pre ++ .qu id cs :: rest)) (costsL (pre ++ rest)) 0 :=
  costs_pre (Int.le_refl 0) (query_on rest) (rises_self (es := rest) (Int.le_refl 0) (rest_nodup (pre := pre) (e := .qu id cs) nd)) pre nd (nodup_mid nd)
/-- a write left out: no cost falls by more than its price -/
theorem no_write {pre rest : List Ent} {id : Str} {rs ws : List Str} {i : Int} (hi : 0 ≤ i) (nd : ((pre ++ .wr id rs ws (some i) :: rest).map Ent.id).Nodup) : rises (costsL (pre ++ .wr id rs ws (some i) :: rest)) (costsL (pre ++ rest)) i := by
  refine costs_pre hi (write_on hi rest) (fun n x y hx hy => ?_) pre nd (nodup_mid nd)
  rcases List.mem_append.mp hx with h | h
  · have e : n = id := by
      have h : (n, x) ∈ [(id, costW (wayFrom (onB rest) ws))] := h
      exact (Prod.mk.inj (List.mem_singleton.mp h)).1
    have t := List.nodup_cons.mp (tail_nodup nd)
    refine absurd ?_ t.1
    have : n ∈ (costsL rest).map (·.1) := List.mem_map.mpr ⟨_, hy, rfl⟩
    rw [costsL_names, e] at this
    obtain ⟨u, hu, hid⟩ := List.mem_map.mp this
    exact List.mem_map.mpr ⟨u, (List.mem_filter.mp hu).1, hid⟩
  · exact rises_self hi (rest_nodup nd) n x y h hy
/-- a write sealed: no cost falls -/
theorem seal_up {pre rest : List Ent} {id : Str} {rs ws : List Str} {pr : Option Int} (nd : ((pre ++ .wr id rs ws pr :: rest).map Ent.id).Nodup) : rises (costsL (pre ++ .wr id rs ws pr :: rest)) (costsL (pre ++ .wr id rs ws none :: rest)) 0 := by
  refine costs_pre (Int.le_refl 0) (sealed_on rest) ?_ pre nd (by simpa [Ent.id] using nd)
  exact rises_self (es := .wr id rs ws pr :: rest) (Int.le_refl 0) (tail_nodup nd)
/-- behind the last write nothing costs -/
theorem free_on : ∀ {es : List Ent}, (∀ e ∈ es, e.isW = false) → ∀ c, costW (onB es c) = some 0
  | [], _, c => rfl
  | .wr .. :: es, h, _ => absurd (h _ List.mem_cons_self) (by simp [Ent.isW])
  | .qu id cs :: es, h, c => by
    have ih := free_on (es := es) (fun e he => h e (List.mem_cons_of_mem _ he)) c
    show costW (readers (.qu id cs) (some (0, [])) (onB es) c) = some 0
    unfold readers
    by_cases hc : c ∈ (Ent.qu id cs).rs
    · rw [if_pos hc]
      show costW (better _ (onB es c)) = _
      rw [cost_better, ih]
      rfl
    · rw [if_neg hc]
      exact ih
theorem last_free {pre rest : List Ent} {e : Ent} (hw : e.isW = true) (ok : e.Ok) (h : ∀ u ∈ rest, u.isW = false) : costW (wayFrom (onB rest) e.ws) = some 0 := by
  match e, hw, ok with
  | .wr id rs ws pr, _, ok =>
    obtain ⟨_, _, hws, _⟩ := ok
    obtain ⟨c, hc⟩ : ∃ c, c ∈ ws := by
      have := hws.lo
      cases ws with
      | nil => simp at this
      | cons a l => exact ⟨a, List.mem_cons_self⟩
    obtain ⟨x, hx⟩ : ∃ x, onB rest c = some x := by
      have := free_on h c
      cases q : onB rest c with
      | none => rw [q] at this; cases this
      | some x => exact ⟨x, rfl⟩
    have hin : x ∈ ws.filterMap (onB rest) := List.mem_filterMap.mpr ⟨c, hc, hx⟩
    obtain ⟨m, hm, hmem, _⟩ := (minW_iff (ws.filterMap (onB rest))).2 (fun z => by rw [z] at hin; cases hin)
    obtain ⟨d, _, hd⟩ := List.mem_filterMap.mp hmem
    have := free_on h d
    rw [hd] at this
    show costW (minW (ws.filterMap (onB rest))) = some 0
    rw [hm]
    exact this
end NV
/-! W3 -/
set_option Elab.async false
set_option linter.all false
set_option maxRecDepth 100000
set_option maxHeartbeats 600000
/-! < of ways; min of ways with a default -/
namespace NV
open PySem PySem.Spec PyProof.Rows L2
open PySem.W (dataLt alike alikeAll AlikeAll readsAll_len readsAll_atA cmpIn_lt iter_listW moved_old argBest_fold)
def rLtWay : R2 := fun x y H Q => ∃ (a b : Int × Path) (ex : List Addr), Rp ex H (someD a) x ∧ Rp ex H (someD b) y ∧ Q (.bl (wayLt a b)) H
theorem op_ltWay {X : Cx} (hu : X.A.units + 64 < cLine) : OpR X (compareOp .Lt) rLtWay := by
  intro pins s σ H x y v u Q I rx ry h
  obtain ⟨a, b, ex, ra, rb, q⟩ := h
  obtain ⟨as, r1⟩ := rp_reads I.hok _ x v ra rx
  obtain ⟨bs, r2⟩ := rp_reads I.hok _ y u rb ry
  refine PySem.W.lt_data r1 r2 (alike_ways a b) (by simp [someD]) ?_ ⟨.bl _, H, I, rfl, q⟩
  have := depth_way a
  have := Nat.min_le_left (someD a).depth (someD b).depth
  omega
theorem depths_way : ∀ ds : List (Int × Path), PyData.depthAll (ds.map someD) ≤ 3
  | [] => by simp [PyData.depthAll]
  | d :: ds => by
    have h1 := depths_way ds
    have h2 := depth_way d
    rw [List.map_cons]
    simp only [PyData.depthAll]
    omega
theorem alikes_way (ds : List (Int × Path)) : AlikeAll (ds.map someD) := by
  constructor
  · intro x hx y hy
    obtain ⟨a, _, rfl⟩ := List.mem_map.mp hx
    obtain ⟨b, _, rfl⟩ := List.mem_map.mp hy
    exact alike_ways a b
  · intro x hx
    obtain ⟨a, _, rfl⟩ := List.mem_map.mp hx
    simp [someD]
section
variable {P : Program} {w : World} {A : Around} {E : Value → Shared → Prop} {s : Shared}
/-- min(l, default=d): which item it is -/
theorem min_item {l : Addr} {vs : Array Value} {xs : List PyData} {as : List Addr} {d : Value} {Q : Value → Shared → Prop} (hh : A.handled = none) (hl : s.heap.IsList l vs) (hr : ReadsAll s.heap vs.toList xs as) (ha : AlikeAll xs) (hu : A.units + 1 + PyData.depthAll xs < cLine)
    (none_ : xs = [] → ∀ g tk, (∀ b o, s.heap.get? b = some o → g.get? b = some o) → Q d { s with heap := g, toks := tk })
    (some_ : ∀ (y : PyData) (ys : List PyData) (i : Nat) v g tk, xs = y :: ys → vs[i]? = some v → xs[i]? = some (PySem.W.minD y ys) → (∀ b o, s.heap.get? b = some o → g.get? b = some o) → Q v { s with heap := g, toks := tk }) :
    wpAny (model P w) A (call (.builtin "min") [.ref l] [(Str.ofString "default", d)]) Q E s := by
  have size := readsAll_len hr
  refine call_min_walkD (iter_listW (A := A.in1) hh hl fun s1 e W st hfp hw hk => ?_)
  have none' : vs.size = 0 → ∀ s2, Moved [s.heap.objs.size] (fun a b => b = a) s1 s2 → Q d s2 := fun hz s2 m => by
    obtain ⟨g, tk, rfl, old⟩ := moved_old e rfl m
    exact none_ (List.eq_nil_of_length_eq_zero (by rw [← size]; exact hz)) g tk old
  refine ⟨_, _, _, _, _, _, _, s.heap, fun i j => dataLt (xs.getD i .none) (xs.getD j .none), rfl, W, st, hfp, hw, hk, none', fun pos => ⟨cmpIn_lt (A := A.in1) hr ha (show A.units + 1 + _ < _ from hu), fun v s2 at_ m => ?_⟩⟩
  obtain ⟨g, tk, rfl, old⟩ := moved_old e rfl m
  match xs, size, at_, hr with
  | [], size, _, _ => exact absurd pos (by rw [size]; exact Nat.lt_irrefl 0)
  | y :: ys, size, at_, hr =>
    have last : vs.size - 1 = ys.length := by rw [size]; rfl
    have best := argBest_fold dataLt PyData.none y ys ys.length (Nat.le_refl _)
    rw [List.take_length] at best
    rw [last] at at_
    refine some_ y ys _ v g tk rfl at_ ?_ old
    have lt : argBest (fun i j => dataLt ((y :: ys).getD i .none) ((y :: ys).getD j .none)) ys.length < (y :: ys).length := by
      rw [List.length_cons]
      exact Nat.lt_succ_of_le best.1
    rw [List.getElem?_eq_getElem lt]
    have := best.2
    rw [List.getD_eq_getElem?_getD, List.getElem?_eq_getElem lt] at this
    exact congrArg some this
end
def rMinWay : List V → List V → Hp → VK → Prop := fun vs zs H Q => ∃ (l : Addr) (xs : List V) (ds : List (Int × Path)) (ex : List Addr), vs = [.ref l] ∧ zs = [.non] ∧ H l = some (.lst xs) ∧ RpAll ex H (ds.map someD) xs ∧ ∀ v, Rp ex H (wayD (minW ds)) v → Q v H
theorem cr_minWay {X : Cx} (hc : X.calm = true) (hu : X.A.units + 64 < cLine) : CallRK X (.builtin "min") ["default"] rMinWay := by
  intro pins s σ H vs zs us ws Q I r rz h
  obtain ⟨l, xs, ds, ex, rfl, rfl, hl, hx, q⟩ := h
  rw [Vals.ref1 r]
  obtain ⟨u, rfl, ru⟩ : ∃ u, ws = [u] ∧ RelV .non u := by
    cases rz with
    | cons h t => cases t; exact ⟨_, rfl, h⟩
  obtain rfl : u = Value.none := ru
  obtain ⟨_, its, n, rv, ho⟩ := I.hok l _ hl
  obtain ⟨as, ra⟩ := rps_reads I.hok _ xs its hx rv
  have isl : s.heap.IsList l its.toArray := ⟨_, ho, rfl, _, rfl⟩
  show wpAny _ _ (call (.builtin "min") [.ref l] [(Str.ofString "default", .none)]) _ _ s
  refine min_item (xs := ds.map someD) (I.ok.hd hc) isl (by simpa using ra) (alikes_way ds) (by have := depths_way ds; omega) (fun e g tk old => ?_) fun y ys i v g tk e hv hi old => ?_
  · have e : ds = [] := List.map_eq_nil_iff.mp e
    exact ⟨.non, H, I.kept (t' := tk) old, rfl, q .non (by rw [e]; rfl)⟩
  · obtain ⟨d0, ds0, rfl, rfl, rfl⟩ := List.map_eq_cons_iff.mp e
    obtain ⟨x, hx1, rx⟩ := RpAll.at hx hi
    have hv' : its[i]? = some v := by simpa using hv
    obtain ⟨v2, hv2, rxv⟩ := Vals.get rv hx1
    rw [hv'] at hv2
    cases hv2
    refine ⟨x, H, I.kept (t' := tk) old, rxv, q x ?_⟩
    rw [minD_way] at rx
    exact rx
end NV
/-! W4 -/
set_option Elab.async false
set_option linter.all false
set_option maxRecDepth 100000
set_option maxHeartbeats 600000
/-! the package's way_onward, way_from, add_blocker, add_reader -/
namespace NV
open PySem PySem.Spec PyProof.Rows L2
open C8 (pss_cut pe_gc)
abbrev sWayOnward : Stmt := topS 41
theorem scWayOnward : FnScope ["onward", "cell"] ["onward", "cell"] (defScope sWayOnward) := ⟨rfl, rfl, rfl, by decide +kernel, rfl, by decide +kernel, by decide +kernel⟩
abbrev sWayFrom : Stmt := topS 42
theorem scWayFrom : FnScope ["onward", "entry", "ways", "cell", "way"] ["onward", "entry"] (defScope sWayFrom) := ⟨rfl, rfl, rfl, by decide +kernel, rfl, by decide +kernel, by decide +kernel⟩
/-- the dict at od holds o -/
structure OnAt (ex : List Addr) (od : Addr) (o : Str → Way) (n : Nat) (H : Hp) : Prop where
  at_ : ∃ kvs : List (Key × V), H od = some (.dK kvs) ∧ kvs.length ≤ n ∧ ∀ c : Str, match valV kvs (Sum.inr c : Key) with
    | some v => Rp ex H (wayD (o c)) v
    | none => o c = endW c
theorem OnAt.keep {ex : List Addr} {od : Addr} {o : Str → Way} {n : Nat} {H H' : Hp} (h : OnAt ex od o n H) (k : Kp [] H H') : OnAt ex od o n H' := by
  obtain ⟨kvs, e, l, q⟩ := h
  refine ⟨kvs, k _ _ (by simp) e, l, fun c => ?_⟩
  have := q c
  cases hv : valV kvs (Sum.inr c : Key) with
  | none => rw [hv] at this; exact this
  | some v => rw [hv] at this; exact Rp.keep (k.mono (by simp)) _ _ this
theorem OnAt.more {ex : List Addr} {od : Addr} {o : Str → Way} {n m : Nat} {H : Hp} (h : OnAt ex od o n H) (l : n ≤ m) : OnAt ex od o m H := by
  obtain ⟨kvs, e, l', q⟩ := h
  exact ⟨kvs, e, by omega, q⟩
theorem OnAt.same {ex : List Addr} {od : Addr} {o o' : Str → Way} {n : Nat} {H : Hp} (h : OnAt ex od o n H) (e : ∀ c, o c = o' c) : OnAt ex od o' n H := by
  rw [show o' = o from funext fun c => (e c).symm]
  exact h
/-- one cell is stored -/
theorem OnAt.put {ex : List Addr} {od : Addr} {o : Str → Way} {n : Nat} {H : Hp} (h : OnAt ex od o n H) (ho : od ∈ ex) (k : Str) {w : Way} {v : V} (rv : Rp ex H (wayD w) v) (hn : n < sizeLine) :
    ∃ H', DPut H od (.str k) v H' ∧ Kp [od] H H' ∧ OnAt ex od (fun c => if c = k then w else o c) (n + 1) H' := by
  obtain ⟨kvs, e, l, q⟩ := h
  have kp : Kp ex H (upd H od (.dK (putK kvs (Sum.inr k : Key) v))) := Kp.put ho
  refine ⟨_, DPut.k (k := (Sum.inr k : Key)) e (by omega), Kp.put (by simp), _, upd_same, ?_, fun c => ?_⟩
  · unfold putK
    split
    · rw [List.length_map]; omega
    · rw [List.length_append, List.length_singleton]; omega
  · rw [valV_put]
    by_cases hc : c = k
    · rw [if_pos (by rw [hc]), if_pos hc]
      exact Rp.keep kp _ _ rv
    · rw [if_neg (fun z => hc (Sum.inr.inj z)), if_neg hc]
      have := q c
      cases hv : valV kvs (Sum.inr c : Key) with
      | none => rw [hv] at this; exact this
      | some u => rw [hv] at this; exact Rp.keep kp _ _ this
def spOnward : Sp := fun vs H Q _ => ∃ (od : Addr) (c : Str) (o : Str → Way) (n : Nat) (ex : List Addr), vs = [.ref od, .str c] ∧ Live ex H ∧ OnAt ex od o n H ∧ ∀ v H', Kp [] H H' → Rp ex H' (wayD (o c)) v → Q v H'
section
variable {P : Program} {w : World} {K : PySem.W.Frag} {mg : Str → Option Value} {base : Heap}
theorem ok_onward (DWayOnward : Fn K mg "way_onward" sWayOnward ["onward", "cell"]) (g1 : ∃ u, mg "END" = some u ∧ L2.RelV (.str "") u) : FnOk P w K mg base CX0 1 DWayOnward.f DWayOnward.fd ["onward", "cell"] spOnward := by
  refine DWayOnward.F.ok scWayOnward (fun vs H Q E h => ?_) (fun cdv A outer s H vs Q E hr h => ?_)
  · obtain ⟨od, c, o, n, ex, rfl, _⟩ := h
    rfl
  obtain ⟨od, c, o, n, ex, rfl, lv, on, q⟩ := h
  have hu := hu_of hr
  refine ⟨_, pss_one (ps_ret (pe_ifExp (pt_cmp (pc_din hu (pv 1) (pv 0))) (pe_dget hu (pv 0) (pv 1) (fun _ _ => rfl)) (pe_tup (pa_cons pe_int (pa_cons (pe_tup (pa_cons (pe_tup (pa_cons (pe_gc (v := .str "") rfl g1) (pa_cons (pv 1) pa_nil))) pa_nil)) pa_nil))))), ?_⟩
  obtain ⟨kvs, e, _, all⟩ := on.at_
  have hc := all c
  refine ⟨_, rfl, _, rfl, od, _, rfl, DGet.k (k := Sum.inr c) e, _, rfl, ?_⟩
  cases hv : valV kvs (Sum.inr c : Key) with
  | some v =>
    rw [hv] at hc
    refine iteT ⟨_, rfl, _, rfl, od, v, rfl, by rw [← hv]; exact DGet.k (k := Sum.inr c) e, q v H Kp.refl hc⟩
  | none =>
    rw [hv] at hc
    refine iteF ⟨_, rfl, (by show 2 ≤ sizeLine; decide), fun p1 n1 => ⟨(by show 1 ≤ sizeLine; decide), fun p2 n2 => ⟨(by show 2 ≤ sizeLine; decide), fun p3 n3 => ?_⟩⟩⟩
    have k1 : Kp [] H (upd H p1 (.tup [.str "", .str c])) := Kp.laid n1
    have k2 := Kp.laid (ex := []) (o := .tup [.ref p1]) n2
    have k3 := Kp.laid (ex := []) (o := .tup [.int 0, .ref p2]) n3
    have f1 := lv.fresh n1
    have f2 := (lv.kp0 k1).fresh n2
    have f3 := ((lv.kp0 k1).kp0 k2).fresh n3
    refine q _ _ ((k1.trans k2).trans k3) ?_
    rw [hc]
    have r1 : Rp ex (upd H p1 (.tup [.str "", .str c])) (stepD ("", c)) (.ref p1) := rp_new f1 n1 ⟨_, _, rfl, rfl, RpAll.one rfl⟩
    have r2 : Rp ex _ (pathD [("", c)]) (.ref p2) := rp_new f2 n2 (RpAll.one r1)
    exact rp_new f3 n3 ⟨_, _, rfl, rfl, RpAll.one r2⟩
end
end NV
/-! W5 -/
set_option Elab.async false
set_option linter.all false
set_option maxRecDepth 100000
set_option maxHeartbeats 600000
/-! the package's way_from -/
namespace NV
open PySem PySem.Spec PyProof.Rows L2
open C8 (pss_cut pe_gc)
theorem OnAt.apart {ex : List Addr} {od : Addr} {o : Str → Way} {n : Nat} {H : Hp} {p : Addr} (h : OnAt ex od o n H) (hp : H p = none) : OnAt (p :: ex) od o n H := by
  obtain ⟨kvs, e, l, q⟩ := h
  refine ⟨kvs, e, l, fun c => ?_⟩
  have := q c
  cases hv : valV kvs (Sum.inr c : Key) with
  | none => rw [hv] at this; exact this
  | some v => rw [hv] at this; exact Rp.apart hp _ _ this
def spFrom : Sp := fun vs H Q _ => ∃ (od : Addr) (v : V) (e : Ent) (o : Str → Way) (n : Nat) (ex : List Addr), vs = [.ref od, v] ∧ Rp ex H e.data v ∧ e.isW = true ∧ e.ws.length ≤ 3 ∧ Live ex H ∧ OnAt ex od o n H ∧ ∀ u H', Kp [] H H' → Rp ex H' (wayD (wayFrom o e.ws)) u → Q u H'
/-- the ways that are none are left out -/
theorem filter_take {o : Str → Way} {ws : List Str} {j : Nat} {c : Str} (h : ws[j]? = some c) : (ws.take (j + 1)).filterMap o = (ws.take j).filterMap o ++ (match o c with | some x => [x] | none => []) := by
  rw [List.take_add_one, h, List.filterMap_append]
  congr 1
  show List.filterMap o [c] = _
  cases hc : o c <;> simp [hc]
section
variable {P : Program} {w : World} {K : PySem.W.Frag} {mg : Str → Option Value} {base : Heap}
theorem ok_wayfrom (DWayFrom : Fn K mg "way_from" sWayFrom ["onward", "entry"]) (DWayOnward : Fn K mg "way_onward" sWayOnward ["onward", "cell"]) (b_min : mg "min" = none) (g1 : ∃ u, mg "WRITES" = some u ∧ L2.RelV (.int 3) u)
    (GWayOnward : FnOk P w K mg base CX0 1 DWayOnward.f DWayOnward.fd ["onward", "cell"] spOnward) : FnOk P w K mg base CX0 2 DWayFrom.f DWayFrom.fd ["onward", "entry"] spFrom := by
  refine DWayFrom.F.ok scWayFrom (fun vs H Q E h => ?_) (fun cdv A outer s H vs Q E hr h => ?_)
  · obtain ⟨od, v, e, o, n, ex, rfl, _⟩ := h
    rfl
  obtain ⟨od, v, e, o, n, ex, rfl, rv, hw, h3, lv, on, q⟩ := h
  refine ⟨_, pss_cons (ps_setLc (i := 2) (own := [("cell", 3)]) (g := gName 3) (tt := tYes) (by rfl) scWayFrom.nd rfl rfl (sw_true rfl rfl rfl (by decide +kernel)) (piTupE K (pe_ix (ixtE K) (pv 1) (pe_gc (v := .int 3) rfl g1) (fun _ _ => rfl))) (blkOk_by (N := ["onward", "entry", "ways", "cell", "way"]) (sc := defScope sWayFrom) (by decide +kernel)) (fun _ _ _ _ _ => (pg_name (i := 3) scWayFrom.nd rfl (.inl rfl))) (fun _ _ _ _ _ => pts_nil) (fun _ _ _ _ _ => (pe_fn DWayOnward GWayOnward hr (pa_cons (pv 0) (pa_cons (pv 3) pa_nil)))))
      (pss_one (ps_ret (pe_callBK (cr_minWay rfl hr.units) (by rfl) b_min (by decide +kernel) (pa_cons (pe_lc (own := [("way", 4)]) (g := gName 4) (by rfl) scWayFrom.nd (piListE K (pv 2)) (blkOk_by (N := ["onward", "entry", "ways", "cell", "way"]) (sc := defScope sWayFrom) (by decide +kernel)) (fun _ _ _ _ _ => (pg_name (i := 4) scWayFrom.nd rfl (.inl rfl))) (fun _ _ _ _ _ => (pts_one (pt_cmpR op_notN (pv 4) pe_non (nomark _)))) (fun _ _ _ _ _ => (pv 4))) pa_nil) (pk_cons pe_non pk_nil)))), ?_⟩
  obtain ⟨ds, ed, e3, _⟩ := ent_writes hw
  refine ⟨_, rfl, c_of (ent_ix rv ed e3 rfl fun u ru => ?_)⟩
  obtain ⟨wa, cs, rfl, nwa, hwa, hcs⟩ := ru
  obtain rfl := strs_of hcs
  have hlen : (e.ws.map V.str).length = e.ws.length := List.length_map ..
  have line3 : (3 : Nat) < sizeLine := by decide
  have atc : ∀ {j : Nat} {x : V}, (e.ws.map V.str)[j]? = some x → ∃ c, e.ws[j]? = some c ∧ V.str c = x := fun {j x} hx => by
    rw [List.getElem?_map] at hx
    cases hcj : e.ws[j]? with
    | none => rw [hcj] at hx; cases hx
    | some c => rw [hcj] at hx; exact ⟨c, rfl, Option.some.inj hx⟩
  refine ⟨wa, rfl, ⟨_, .inl (.inl hwa)⟩, fun L nL => ?_⟩
  have kL0 : Kp [] H (upd H L (.lst [])) := Kp.laid nL
  have onL : OnAt (L :: ex) od o n (upd H L (.lst [])) := (on.apart nL).keep kL0
  have lvL : Live (L :: ex) (upd H L (.lst [])) := fun b hb => by
    rcases List.mem_cons.mp hb with z | z
    · rw [z, upd_same]; exact fun q => by cases q
    · exact lv.kp0 kL0 b z
  have nw : wa ≠ L := fun z => by rw [z, nL] at hwa; cases hwa
  have hwaL : (upd H L (.lst [])) wa = some (.tup (e.ws.map V.str)) := by rw [upd_ne nw]; exact hwa
  have hL0 : (upd H L (.lst [])) L = some (.lst []) := upd_same
  have back : ∀ {H' : Hp}, Kp [L] (upd H L (.lst [])) H' → Kp [] H H' := fun k => Kp.drop ((kL0.mono (by simp)).trans k) nL
  obtain ⟨H0, e0⟩ : ∃ H0, upd H L (.lst []) = H0 := ⟨_, rfl⟩
  rw [e0] at kL0 onL lvL hwaL hL0
  have back : ∀ {H' : Hp}, Kp [L] H0 H' → Kp [] H H' := fun k => back (by rw [e0]; exact k)
  -- what stands while the list grows
  have onK : ∀ {H' : Hp}, Kp [L] H0 H' → (∃ acc : List V, H' L = some (.lst acc)) → OnAt (L :: ex) od o n H' ∧ Live (L :: ex) H' := fun {H'} k ⟨acc, hL⟩ => by
    obtain ⟨kvs, ek, lk, qk⟩ := onL.at_
    have no : od ≠ L := fun z => by rw [z, hL0] at ek; cases ek
    refine ⟨⟨kvs, k _ _ (by simpa using no) ek, lk, fun c => ?_⟩, fun b hb => ?_⟩
    · have := qk c
      cases hv : valV kvs (Sum.inr c : Key) with
      | none => rw [hv] at this; exact this
      | some v => rw [hv] at this; exact Rp.keep (k.mono (by simp)) _ _ this
    · by_cases hbL : b = L
      · rw [hbL, hL]; exact fun q => by cases q
      · intro z
        cases h0 : H0 b with
        | none => exact lvL b hb h0
        | some u => rw [k b u (by simpa using hbL) h0] at z; cases z
  refine lc_tup (K := K) (xs := e.ws.map V.str) (fun j H' => ∃ acc : List V, Kp [L] H0 H' ∧ H' L = some (.lst acc) ∧ acc.length = j ∧ RpAll (L :: ex) H' ((e.ws.take j).map fun c => wayD (o c)) acc) (by rw [e0]; exact ⟨[], Kp.refl, hL0, rfl, rfl⟩) (fun j H' hj ⟨acc, k, _⟩ => .inl (.inl (k _ _ (by simpa using nw) hwaL))) (fun j x H' hx ⟨acc, k, hL, ha, hr2⟩ => ?_) fun H' ⟨acc, k, hL, ha, hr2⟩ => ?_
  · obtain ⟨c, hc, rfl⟩ := atc hx
    have hj : j < e.ws.length := (List.getElem?_eq_some_iff.mp hc).1
    obtain ⟨on1, lv1⟩ := onK k ⟨acc, hL⟩
    refine ⟨rfl, ?_⟩
    refine ⟨_, rfl, _, rfl, od, c, o, n, L :: ex, rfl, lv1, on1, fun u H2 k2 ru => ⟨acc, k2 _ _ (by simp) hL, by omega, acc ++ [u], ?_, upd_same, by rw [List.length_append, ha]; rfl, ?_⟩⟩
    · exact (k.trans (k2.mono (by simp))).trans (Kp.put (by simp))
    · have kp : Kp (L :: ex) H2 (upd H2 L (.lst (acc ++ [u]))) := Kp.put (by simp)
      rw [List.take_add_one, hc, List.map_append]
      exact RpAll.app (RpAll.keep ((k2.mono (by simp)).trans kp) _ _ hr2) (RpAll.one (Rp.keep kp _ _ ru))
  · rw [hlen, List.take_length] at hr2
    rw [hlen] at ha
    -- the ways that are there
    refine ⟨_, rfl, L, rfl, ⟨_, .inl (.inl hL)⟩, fun D nD => ?_⟩
    have nLD : L ≠ D := fun z => by rw [z, nD] at hL; cases hL
    have rD : RpAll (D :: L :: ex) H' (e.ws.map fun c => wayD (o c)) acc := RpAll.apart nD _ _ hr2
    have kD0 : Kp [] H' (upd H' D (.lst [])) := Kp.laid nD
    refine lc_list (K := K) (xs := acc) (fun j H2 => ∃ acc2 : List V, Kp [D] (upd H' D (.lst [])) H2 ∧ H2 D = some (.lst acc2) ∧ acc2.length ≤ j ∧ RpAll (D :: L :: ex) H2 (((e.ws.take j).filterMap o).map someD) acc2) ⟨[], Kp.refl, upd_same, Nat.le_refl _, rfl⟩ (fun j H2 hj ⟨acc2, k2, _⟩ => .inl (.inl (k2 _ _ (by simpa using nLD) (by rw [upd_ne nLD]; exact hL)))) (fun j x H2 hx ⟨acc2, k2, hD, ha2, hr3⟩ => ?_) fun H2 ⟨acc2, k2, hD, ha2, hr3⟩ => ?_
    · obtain ⟨d, hd, rd⟩ := RpAll.back rD hx
      have hj : j < acc.length := (List.getElem?_eq_some_iff.mp hx).1
      have hjw : j < e.ws.length := by omega
      have hcj : e.ws[j]? = some e.ws[j] := List.getElem?_eq_getElem hjw
      have ed2 : d = wayD (o e.ws[j]) := by
        rw [List.getElem?_map, hcj] at hd
        exact (Option.some.inj hd).symm
      subst ed2
      have rx : Rp (D :: L :: ex) H2 (wayD (o e.ws[j])) x := Rp.keep ((kD0.mono (by simp)).trans (k2.mono (by simp))) _ _ rd
      refine ⟨rfl, ?_⟩
      refine ⟨_, rfl, rfl, _, rfl, ?_⟩
      rw [filter_take hcj]
      cases ho : o e.ws[j] with
      | none =>
        rw [ho] at rx
        obtain rfl : x = .non := rx
        refine iteF ⟨acc2, k2, hD, by omega, ?_⟩
        simp only [List.append_nil]
        exact hr3
      | some y =>
        rw [ho] at rx
        have nx : x ≠ .non := by
          obtain ⟨a, xs, rfl, _⟩ := rx
          exact fun z => by cases z
        rw [decide_eq_false nx]
        refine iteT ⟨_, rfl, acc2, hD, by omega, acc2 ++ [x], k2.trans (Kp.put (by simp)), upd_same, by rw [List.length_append, List.length_singleton]; omega, ?_⟩
        have kp : Kp (D :: L :: ex) H2 (upd H2 D (.lst (acc2 ++ [x]))) := Kp.put (by simp)
        rw [List.map_append]
        exact RpAll.app (RpAll.keep kp _ _ hr3) (RpAll.one (Rp.keep kp _ _ rx))
    · rw [ha, List.take_length] at hr3
      refine ⟨D, acc2, e.ws.filterMap o, D :: L :: ex, rfl, rfl, hD, hr3, fun u ru => q u H2 ?_ ?_⟩
      · exact (back k).trans (Kp.drop ((kD0.mono (by simp)).trans k2) nD)
      · exact Rp.less (by intro b hb; simp [hb]) _ _ ru
end
end NV
/-! W6 -/
set_option Elab.async false
set_option linter.all false
set_option maxRecDepth 100000
set_option maxHeartbeats 1000000
/-! the package's add_blocker, add_reader -/
namespace NV
open PySem PySem.Spec PyProof.Rows L2
open C8 (pss_cut pe_gc)
abbrev sAddBlocker : Stmt := topS 43
theorem scAddBlocker : FnScope ["onward", "entry", "cell", "way"] ["onward", "entry"] (defScope sAddBlocker) := ⟨rfl, rfl, rfl, by decide +kernel, rfl, by decide +kernel, by decide +kernel⟩
abbrev sAddReader : Stmt := topS 44
theorem scAddReader : FnScope ["onward", "entry", "way", "cell", "cost", "path", "passing", "reading"] ["onward", "entry", "way"] (defScope sAddReader) := ⟨rfl, rfl, rfl, by decide +kernel, rfl, by decide +kernel, by decide +kernel⟩
/-- the dict of ways, and what it rests on, while the dict alone changes -/
theorem OnAt.live {ex : List Addr} {od : Addr} {o : Str → Way} {n : Nat} {H H' : Hp} (on : OnAt ex od o n H') (lv : Live ex H) (k : Kp [od] H H') : Live ex H' := fun b hb z => by
  by_cases h : b = od
  · obtain ⟨kvs, e, _⟩ := on.at_
    rw [h, e] at z
    cases z
  · cases h0 : H b with
    | none => exact lv b hb h0
    | some u => rw [k b u (by simpa using h) h0] at z; cases z
theorem better_yes {x y : Int × Path} (h : wayLt x y = true) : better x (some y) = some x := if_pos h
theorem better_no {x y : Int × Path} (h : wayLt x y = false) : better x (some y) = some y := if_neg (by rw [h]; exact Bool.false_ne_true)
def spBlock : Sp := fun vs H Q _ => ∃ (od : Addr) (v : V) (e : Ent) (o : Str → Way) (n : Nat) (ex : List Addr), vs = [.ref od, v] ∧ Rp ex H e.data v ∧ e.isW = true ∧ e.ws.Nodup ∧ e.ws.length ≤ 3 ∧ od ∈ ex ∧ Live ex H ∧ OnAt ex od o n H ∧ n ≤ 100000 ∧ ∀ H', Kp [od] H H' → OnAt ex od (blocked e o) (n + 3) H' → Q .non H'
def spRead : Sp := fun vs H Q _ => ∃ (od : Addr) (v wv : V) (e : Ent) (x : Int × Path) (o : Str → Way) (n : Nat) (ex : List Addr), vs = [.ref od, v, wv] ∧ Rp ex H e.data v ∧ Rp ex H (someD x) wv ∧ x.2.length ≤ 1000 ∧ e.rs.Nodup ∧ e.rs.length ≤ 3 ∧ od ∈ ex ∧ Live ex H ∧ OnAt ex od o n H ∧ n ≤ 100000 ∧
  ∀ H', Kp [od] H H' → OnAt ex od (readers e (some x) o) (n + 3) H' → Q .non H'
section
variable {P : Program} {w : World} {K : PySem.W.Frag} {mg : Str → Option Value} {base : Heap}
theorem ok_addblocker (DAddBlocker : Fn K mg "add_blocker" sAddBlocker ["onward", "entry"]) (DWayOnward : Fn K mg "way_onward" sWayOnward ["onward", "cell"]) (g1 : ∃ u, mg "WRITES" = some u ∧ L2.RelV (.int 3) u) (g2 : ∃ u, mg "PRICE" = some u ∧ L2.RelV (.int 4) u)
    (GWayOnward : FnOk P w K mg base CX0 1 DWayOnward.f DWayOnward.fd ["onward", "cell"] spOnward) : FnOk P w K mg base CX0 2 DAddBlocker.f DAddBlocker.fd ["onward", "entry"] spBlock := by
  refine DAddBlocker.F.ok scAddBlocker (fun vs H Q E h => ?_) (fun cdv A outer s H vs Q E hr h => ?_)
  · obtain ⟨od, v, e, o, n, ex, rfl, _⟩ := h
    rfl
  obtain ⟨od, v, e, o, n, ex, rfl, rv, hw, nd, h3, hod, lv, on, hn, q⟩ := h
  have hu := hu_of hr
  have line : (100003 : Nat) < sizeLine := by decide
  refine ⟨_, pss_one (ps_for PassesOwn.never rfl (piTupE K (pe_ix (ixtE K) (pv 1) (pe_gc (v := .int 3) rfl g1) (fun _ _ => rfl))) (pg_name (i := 2) scAddBlocker.nd rfl (.inl rfl))
      (pss_cons (ps_set (i := 3) scAddBlocker.nd rfl (.inl rfl) (pe_fn DWayOnward GWayOnward hr (pa_cons (pv 0) (pa_cons (pv 2) pa_nil))))
      (pss_one (ps_if (PW.pt (pw_or (pt_cmpR op_isN (pv 3) pe_non (nomark _)) (pw_or1 (pt_cmpR op_isN (pe_ix (ixtE K) (pv 1) (pe_gc (v := .int 4) rfl g2) (fun _ _ => rfl)) pe_non (nomark _)))))
      (pss_one (ps_dput hu (pv 0) (pv 2) pe_non rfl))
      (pss_one (ps_dput hu (pv 0) (pv 2) (pe_tup (pa_cons (pe_op op_add (pe_ix (ixtE K) (pv 3) pe_int (fun _ _ => rfl)) (pe_ix (ixtE K) (pv 1) (pe_gc (v := .int 4) rfl g2) (fun _ _ => rfl))) (pa_cons (pe_ix (ixtE K) (pv 3) pe_int (fun _ _ => rfl)) pa_nil))) rfl)))))), ?_⟩
  obtain ⟨ds, ed, e3, e4⟩ := ent_writes hw
  refine ⟨_, rfl, c_of (ent_ix rv ed e3 rfl fun u ru => ?_)⟩
  obtain ⟨wa, cs, rfl, nwa, hwa, hcs⟩ := ru
  obtain rfl := strs_of hcs
  have nw : wa ≠ od := fun z => nwa (by rw [z]; exact hod)
  refine ⟨wa, rfl, ⟨_, .inl (.inl hwa)⟩, for_tup (K := K) (a := wa) (xs := e.ws.map V.str) (fun j σ H' => ∃ c4 w4 : Option V, σ = [some (.ref od), some v, c4, w4] ∧ Kp [od] H H' ∧ OnAt ex od (fun c => if c ∈ e.ws.take j then past e.pr (o c) else o c) (n + j) H')
    ⟨none, none, rfl, Kp.refl, on.same fun c => by simp⟩ (fun j σ H' hj ⟨_, _, _, k, _⟩ => .inl (.inl (k _ _ (by simpa using nw) hwa))) ?_ ?_⟩
  · rintro j x σ H' hx ⟨c4, w4, rfl, k, onj⟩
    obtain ⟨c, hc, rfl⟩ : ∃ c, e.ws[j]? = some c ∧ V.str c = x := by
      rw [List.getElem?_map] at hx
      cases hcj : e.ws[j]? with
      | none => rw [hcj] at hx; cases hx
      | some c => rw [hcj] at hx; exact ⟨c, rfl, Option.some.inj hx⟩
    have hj : j < e.ws.length := (List.getElem?_eq_some_iff.mp hc).1
    have lvj : Live ex H' := onj.live lv k
    have hnot : (if c ∈ e.ws.take j then past e.pr (o c) else o c) = o c := if_neg (nodup_take nd hc)
    -- what the store makes of it
    have step : ∀ {H2 H3 : Hp}, Kp [] H' H2 → Kp [od] H2 H3 → OnAt ex od (fun d => if d = c then past e.pr (o c) else if d ∈ e.ws.take j then past e.pr (o d) else o d) (n + j + 1) H3 → Kp [od] H H3 ∧ OnAt ex od (fun c => if c ∈ e.ws.take (j + 1) then past e.pr (o c) else o c) (n + (j + 1)) H3 := fun k2 k3 on3 => by
      refine ⟨(k.trans (k2.mono (by simp))).trans k3, on3.same fun d => ?_⟩
      rw [List.take_add_one, hc]
      by_cases hd : d = c
      · rw [if_pos hd, if_pos (by rw [hd]; simp), hd]
      · rw [if_neg hd]
        by_cases hm : d ∈ e.ws.take j
        · rw [if_pos hm, if_pos (List.mem_append_left _ hm)]
        · rw [if_neg hm, if_neg (fun z => (List.mem_append.mp z).elim hm (fun y => hd (by simpa using y)))]
    refine ⟨_, rfl, _, rfl, od, c, _, n + j, ex, rfl, lvj, onj, fun u H2 k2 ru => ?_⟩
    rw [hnot] at ru
    have on2 := onj.keep k2
    have rv2 : Rp ex H2 e.data v := Rp.keep ((k.mono (by simpa using hod)).trans (k2.mono (by simp))) _ _ rv
    refine ⟨_, rfl, rfl, _, rfl, ?_⟩
    cases ho : o c with
    | none =>
      rw [ho] at ru
      obtain rfl : u = .non := ru
      refine iteT ?_
      obtain ⟨H3, dp, k3, on3⟩ := on2.put hod c (w := none) (v := .non) rfl (by omega)
      refine ⟨_, rfl, _, rfl, od, _, rfl, dp, ?_⟩
      obtain ⟨k4, on4⟩ := step k2 k3 (on3.same fun d => by rw [ho]; rfl)
      exact ⟨_, _, rfl, k4, on4⟩
    | some y =>
      rw [ho] at ru
      have nx : u ≠ .non := by
        obtain ⟨a, xs, rfl, _⟩ := ru
        exact fun z => by cases z
      rw [decide_eq_false nx]
      refine iteF ⟨_, rfl, c_of (ent_ix rv2 ed e4 rfl fun pv1 rp => ?_)⟩
      refine ⟨rfl, _, rfl, ?_⟩
      cases hp : e.pr with
      | none =>
        rw [hp] at rp
        obtain rfl : pv1 = .non := rp
        refine iteT ?_
        obtain ⟨H3, dp, k3, on3⟩ := on2.put hod c (w := none) (v := .non) rfl (by omega)
        refine ⟨_, rfl, _, rfl, od, _, rfl, dp, ?_⟩
        obtain ⟨k4, on4⟩ := step k2 k3 (on3.same fun d => by rw [ho, hp]; rfl)
        rw [hp] at on4
        exact ⟨_, _, rfl, k4, on4⟩
      | some i =>
        rw [hp] at rp
        obtain rfl : pv1 = .int i := rp
        refine iteF ?_
        have ru' : Rp ex H2 (.tuple [.int y.1, pathD y.2]) u := ru
        obtain ⟨ua, us, rfl, nua, hua, hus⟩ := ru'
        refine ⟨_, rfl, c_of (ixD (j := 0) rfl hua hus rfl fun k0 r0 => ?_)⟩
        obtain rfl : k0 = .int y.1 := r0
        refine ⟨_, rfl, c_of (ent_ix rv2 ed e4 rfl fun k1 r1 => ?_)⟩
        rw [hp] at r1
        obtain rfl : k1 = .int i := r1
        refine ⟨y.1, i, rfl, rfl, _, rfl, c_of (ixD (j := 1) rfl hua hus rfl fun k2' r2 => ⟨(by show 2 ≤ sizeLine; decide), fun t nt => ?_⟩)⟩
        have kt : Kp [] H2 (upd H2 t (.tup [.int (y.1 + i), k2'])) := Kp.laid nt
        have lv2 : Live ex H2 := lvj.kp0 k2
        have rt : Rp ex (upd H2 t (.tup [.int (y.1 + i), k2'])) (wayD (some (y.1 + i, y.2))) (.ref t) := rp_new (lv2.fresh nt) nt ⟨_, _, rfl, rfl, RpAll.one r2⟩
        obtain ⟨H3, dp, k3, on3⟩ := (on2.keep kt).put hod c rt (by omega)
        refine ⟨_, rfl, _, rfl, od, _, rfl, dp, ?_⟩
        obtain ⟨k4, on4⟩ := step (k2.trans kt) k3 (on3.same fun d => by rw [ho, hp]; rfl)
        rw [hp] at on4
        exact ⟨_, _, rfl, k4, on4⟩
  · rintro σ H' ⟨c4, w4, rfl, k, onj⟩
    rw [List.length_map] at onj
    refine q H' k ((onj.more (by omega)).same fun c => ?_)
    rw [List.take_length]
    rfl
theorem ok_addreader (DAddReader : Fn K mg "add_reader" sAddReader ["onward", "entry", "way"]) (DWayOnward : Fn K mg "way_onward" sWayOnward ["onward", "cell"]) (g1 : ∃ u, mg "READS" = some u ∧ L2.RelV (.int 2) u) (g2 : ∃ u, mg "ID" = some u ∧ L2.RelV (.int 1) u)
    (GWayOnward : FnOk P w K mg base CX0 1 DWayOnward.f DWayOnward.fd ["onward", "cell"] spOnward) : FnOk P w K mg base CX0 2 DAddReader.f DAddReader.fd ["onward", "entry", "way"] spRead := by
  refine DAddReader.F.ok scAddReader (fun vs H Q E h => ?_) (fun cdv A outer s H vs Q E hr h => ?_)
  · obtain ⟨od, v, wv, e, x, o, n, ex, rfl, _⟩ := h
    rfl
  obtain ⟨od, v, wv, e, x, o, n, ex, rfl, rv, rw_, hlen, nd, h3, hod, lv, on, hn, q⟩ := h
  have hu := hu_of hr
  have line : (100003 : Nat) < sizeLine := by decide
  refine ⟨_, pss_cons (ps_asg (pv 2) (pg_tup (by rfl) (pgs_cons (pg_name (i := 4) scAddReader.nd rfl (.inl rfl)) (pgs_cons (pg_name (i := 5) scAddReader.nd rfl (.inl rfl)) pgs_nil))))
      (pss_one (ps_for PassesOwn.never rfl (piTupE K (pe_ix (ixtE K) (pv 1) (pe_gc (v := .int 2) rfl g1) (fun _ _ => rfl))) (pg_name (i := 3) scAddReader.nd rfl (.inl rfl))
      (pss_cons (ps_set (i := 6) scAddReader.nd rfl (.inl rfl) (pe_fn DWayOnward GWayOnward hr (pa_cons (pv 0) (pa_cons (pv 3) pa_nil))))
      (pss_cons (ps_set (i := 7) scAddReader.nd rfl (.inl rfl) (pe_tup (pa_cons (pv 4) (pa_cons (pe_op op_catA (pe_tup (pa_cons (pe_tup (pa_cons (pe_ix (ixtE K) (pv 1) (pe_gc (v := .int 1) rfl g2) (fun _ _ => rfl)) (pa_cons (pv 3) pa_nil))) pa_nil)) (pv 5)) pa_nil))))
      (pss_one (ps_if (PW.pt (pw_or (pt_cmpR op_isN (pv 6) pe_non (nomark _)) (pw_or1 (pt_cmpR (op_ltWay hr.units) (pv 7) (pv 6) (nomark _)))))
      (pss_one (ps_dput hu (pv 0) (pv 3) (pv 7) rfl))
      pss_nil)))))), ?_⟩
  obtain ⟨k, p⟩ := x
  have hlen : p.length ≤ 1000 := hlen
  have rw0 : Rp ex H (.tuple [.int k, pathD p]) wv := rw_
  obtain ⟨wa, ws, rfl, nwa, hwa, hws⟩ := rw0
  obtain ⟨v0, t0, rfl, r0, vp, t1, rfl, rp, rfl⟩ := hws
  obtain rfl : v0 = .int k := r0
  refine ⟨_, rfl, wa, [.int k, vp], rfl, .inl (.inl hwa), rfl, _, _, rfl, _, _, rfl, rfl, ?_⟩
  obtain ⟨ds, ed, e1, e2⟩ := ent_reads e
  refine ⟨_, rfl, c_of (ent_ix rv ed e2 rfl fun u ru => ?_)⟩
  obtain ⟨ra, cs, rfl, nra, hra, hcs⟩ := ru
  obtain rfl := strs_of hcs
  have nr : ra ≠ od := fun z => nra (by rw [z]; exact hod)
  refine ⟨ra, rfl, ⟨_, .inl (.inl hra)⟩, for_tup (K := K) (a := ra) (xs := e.rs.map V.str) (fun j σ H' => ∃ c3 c6 c7 : Option V, σ = [some (.ref od), some v, some (.ref wa), c3, some (.int k), some vp, c6, c7] ∧ Kp [od] H H' ∧ OnAt ex od (fun c => if c ∈ e.rs.take j then better (k, (e.id, c) :: p) (o c) else o c) (n + j) H')
    ⟨none, none, none, rfl, Kp.refl, on.same fun c => by simp⟩ (fun j σ H' hj ⟨_, _, _, _, k, _⟩ => .inl (.inl (k _ _ (by simpa using nr) hra))) ?_ ?_⟩
  · rintro j y σ H' hx ⟨c3, c6, c7, rfl, kj, onj⟩
    obtain ⟨c, hc, rfl⟩ : ∃ c, e.rs[j]? = some c ∧ V.str c = y := by
      rw [List.getElem?_map] at hx
      cases hcj : e.rs[j]? with
      | none => rw [hcj] at hx; cases hx
      | some c => rw [hcj] at hx; exact ⟨c, rfl, Option.some.inj hx⟩
    have hj : j < e.rs.length := (List.getElem?_eq_some_iff.mp hc).1
    have lvj : Live ex H' := onj.live lv kj
    have hnot : (if c ∈ e.rs.take j then better (k, (e.id, c) :: p) (o c) else o c) = o c := if_neg (nodup_take nd hc)
    have join : ∀ d, (if d = c then better (k, (e.id, c) :: p) (o c) else if d ∈ e.rs.take j then better (k, (e.id, d) :: p) (o d) else o d) = if d ∈ e.rs.take (j + 1) then better (k, (e.id, d) :: p) (o d) else o d := fun d => by
      rw [List.take_add_one, hc]
      by_cases hd : d = c
      · rw [if_pos hd, if_pos (by rw [hd]; simp), hd]
      · rw [if_neg hd]
        by_cases hm : d ∈ e.rs.take j
        · rw [if_pos hm, if_pos (List.mem_append_left _ hm)]
        · rw [if_neg hm, if_neg (fun z => (List.mem_append.mp z).elim hm (fun y => hd (by simpa using y)))]
    refine ⟨_, rfl, _, rfl, od, c, _, n + j, ex, rfl, lvj, onj, fun u H2 k2 ru => ?_⟩
    rw [hnot] at ru
    have kH2 : Kp ex H H2 := (kj.mono (by simpa using hod)).trans (k2.mono (by simp))
    have rv2 : Rp ex H2 e.data v := Rp.keep kH2 _ _ rv
    have lv2 := lvj.kp0 k2
    refine ⟨_, rfl, _, rfl, c_of (ent_ix rv2 ed e1 rfl fun vi ri => ?_)⟩
    obtain rfl : vi = .str e.id := ri
    refine ⟨_, rfl, (by show 2 ≤ sizeLine; decide), fun p1 n1 => ⟨(by show 1 ≤ sizeLine; decide), fun p2 n2 => ⟨_, rfl, ?_⟩⟩⟩
    have k3 : Kp [] H2 (upd H2 p1 (.tup [.str e.id, .str c])) := Kp.laid n1
    have k4 : Kp [] (upd H2 p1 (.tup [.str e.id, .str c])) (upd (upd H2 p1 (.tup [.str e.id, .str c])) p2 (.tup [.ref p1])) := Kp.laid n2
    have f1 := lv2.fresh n1
    have lv3 := lv2.kp0 k3
    have f2 := lv3.fresh n2
    have lv4 := lv3.kp0 k4
    have rs1 : Rp ex (upd H2 p1 (.tup [.str e.id, .str c])) (stepD (e.id, c)) (.ref p1) := rp_new f1 n1 ⟨_, _, rfl, rfl, RpAll.one rfl⟩
    have h2 : (upd (upd H2 p1 (.tup [.str e.id, .str c])) p2 (.tup [.ref p1])) p2 = some (.tup [.ref p1]) := upd_same
    have rs2 := Rp.keep (k4.mono (ex' := ex) (by simp)) _ _ rs1
    generalize (upd (upd H2 p1 (.tup [.str e.id, .str c])) p2 (.tup [.ref p1])) = H4 at k4 lv4 h2 rs2 ⊢
    have k24 := k3.trans k4
    have rp4 : Rp ex H4 (pathD p) vp := Rp.keep (kH2.trans (k24.mono (by simp))) _ _ rp
    obtain ⟨pa, ps, rfl, npa, hpa, hps⟩ := id rp4
    have hpl : ps.length = p.length := by rw [← hps.length, List.length_map]
    refine catA (ex := ex) h2 hpa f2 npa (fun b hb => lv4.fresh hb) (by show 1 + ps.length ≤ sizeLine; omega) fun r H5 k5 hr5 nr5 => ?_
    refine ⟨(by show 2 ≤ sizeLine; decide), fun t nt => ?_⟩
    have lv5 := lv4.kp0 k5
    have rr : Rp ex H5 (pathD ((e.id, c) :: p)) (.ref r) := ⟨r, _, rfl, nr5, hr5, RpAll.app (RpAll.one (Rp.keep (k5.mono (by simp)) _ _ rs2)) (RpAll.keep (k5.mono (by simp)) _ _ hps)⟩
    have k6 : Kp [] H5 (upd H5 t (.tup [.int k, .ref r])) := Kp.laid nt
    have rt : Rp ex (upd H5 t (.tup [.int k, .ref r])) (someD (k, (e.id, c) :: p)) (.ref t) := rp_new (lv5.fresh nt) nt ⟨_, _, rfl, rfl, RpAll.one rr⟩
    generalize upd H5 t (.tup [.int k, .ref r]) = H6 at k6 rt ⊢
    have k26 : Kp [] H2 H6 := (k24.trans k5).trans k6
    have on6 := (onj.keep k2).keep k26
    have ru6 := Rp.keep (k26.mono (ex' := ex) (by simp)) _ _ ru
    have k06 : Kp [od] H H6 := (kj.trans (k2.mono (by simp))).trans (k26.mono (by simp))
    have fin : ∀ {H7 : Hp}, Kp [od] H6 H7 → OnAt ex od (fun d => if d = c then better (k, (e.id, c) :: p) (o c) else if d ∈ e.rs.take j then better (k, (e.id, d) :: p) (o d) else o d) (n + j + 1) H7 → Kp [od] H H7 ∧ OnAt ex od (fun d => if d ∈ e.rs.take (j + 1) then better (k, (e.id, d) :: p) (o d) else o d) (n + (j + 1)) H7 := fun k7 on7 => ⟨k06.trans k7, on7.same join⟩
    refine ⟨_, rfl, rfl, _, rfl, ?_⟩
    cases ho : o c with
    | none =>
      rw [ho] at ru6
      obtain rfl : u = .non := ru6
      refine iteT ?_
      obtain ⟨H7, dp, k7, on7⟩ := on6.put hod c (w := some (k, (e.id, c) :: p)) rt (by omega)
      refine ⟨_, rfl, _, rfl, _, rfl, od, _, rfl, dp, ?_⟩
      obtain ⟨k8, on8⟩ := fin k7 (on7.same fun d => by rw [ho]; rfl)
      exact ⟨_, _, _, rfl, k8, on8⟩
    | some z =>
      rw [ho] at ru6
      have nx : u ≠ .non := by
        obtain ⟨a, xs, rfl, _⟩ := ru6
        exact fun z => by cases z
      rw [decide_eq_false nx]
      refine iteF ⟨_, rfl, _, rfl, (k, (e.id, c) :: p), z, ex, rt, ru6, _, rfl, ?_⟩
      cases hl : wayLt (k, (e.id, c) :: p) z with
      | true =>
        refine iteT ?_
        obtain ⟨H7, dp, k7, on7⟩ := on6.put hod c (w := some (k, (e.id, c) :: p)) rt (by omega)
        refine ⟨_, rfl, _, rfl, _, rfl, od, _, rfl, dp, ?_⟩
        obtain ⟨k8, on8⟩ := fin k7 (on7.same fun d => by rw [ho, better_yes hl])
        exact ⟨_, _, _, rfl, k8, on8⟩
      | false =>
        refine iteF ?_
        obtain ⟨k8, on8⟩ := fin Kp.refl ((on6.more (Nat.le_succ _)).same fun d => by
          rw [ho, better_no hl]
          by_cases hd : d = c
          · rw [if_pos hd, hd, if_neg (nodup_take nd hc), ho]
          · rw [if_neg hd])
        exact ⟨_, _, _, rfl, k8, on8⟩
  · rintro σ H' ⟨c3, c6, c7, rfl, kj, onj⟩
    rw [List.length_map] at onj
    refine q H' kj ((onj.more (by omega)).same fun c => ?_)
    rw [List.take_length]
    rfl
end
end NV
/-! W7 -/
set_option Elab.async false
set_option linter.all false
set_option maxRecDepth 100000
set_option maxHeartbeats 1000000
/-! the package's cheapest_ways, without labels -/
namespace NV
open PySem PySem.Spec PyProof.Rows L2
open C8 (pss_cut pe_gc)
/-! ### paths are no longer than the log -/
def Short (m : Nat) (w : Way) : Prop := ∀ x, w = some x → x.2.length ≤ m
theorem short_min {m : Nat} {l : List (Int × Path)} (h : ∀ x ∈ l, x.2.length ≤ m) : Short m (minW l) := by
  intro x e
  by_cases hl : l = []
  · rw [(minW_iff l).1 hl] at e; cases e
  · obtain ⟨y, hy, hm, _⟩ := (minW_iff l).2 hl
    rw [hy] at e
    cases e
    exact h _ hm
theorem short_from {m : Nat} {o : Str → Way} {cs : List Str} (h : ∀ c, Short m (o c)) : Short m (wayFrom o cs) := short_min fun x hx => by
  obtain ⟨c, _, e⟩ := List.mem_filterMap.mp hx
  exact h c x e
theorem short_past {m : Nat} {pr : Option Int} {w : Way} (h : Short m w) : Short m (past pr w) := by
  intro x e
  match w, pr, h, e with
  | some (k, p), some i, h, e =>
    cases e
    exact h (k, p) rfl
theorem short_better {m : Nat} {x : Int × Path} {w : Way} (hx : x.2.length ≤ m) (h : Short m w) : Short m (better x w) := by
  intro y e
  cases w with
  | none => cases e; exact hx
  | some z =>
    cases hl : wayLt x z with
    | true => rw [better_yes hl] at e; cases e; exact hx
    | false => rw [better_no hl] at e; exact h y e
theorem Short.up {m n : Nat} {w : Way} (h : Short m w) (l : m ≤ n) : Short n w := fun x e => Nat.le_trans (h x e) l
theorem short_reads {m : Nat} {e : Ent} {w : Way} {o : Str → Way} (hw : Short m w) (h : ∀ c, Short m (o c)) : ∀ c, Short (m + 1) (readers e w o c) := by
  intro c
  unfold readers
  by_cases hc : c ∈ e.rs
  · rw [if_pos hc]
    match w, hw with
    | none, _ => exact (h c).up (Nat.le_succ _)
    | some (k, p), hw => exact short_better (by have h1 : p.length ≤ m := hw (k, p) rfl; show p.length + 1 ≤ m + 1; omega) ((h c).up (Nat.le_succ _))
  · rw [if_neg hc]
    exact (h c).up (Nat.le_succ _)
theorem short_on : ∀ (es : List Ent) (c : Str), Short (es.length + 1) (onB es c)
  | [], c => fun x e => by cases e; exact Nat.le_refl _
  | .wr id rs ws pr :: es, c => by
    refine short_reads (short_from (short_on es)) (fun d => ?_) c
    unfold blocked
    split
    · exact short_past (short_on es d)
    · exact short_on es d
  | .qu id cs :: es, c => short_reads (w := some (0, [])) (fun x e => by cases e; exact Nat.zero_le _) (short_on es) c
/-! ### the dict of ways -/
structure WaysAt (ex : List Addr) (wd : Addr) (ws : List (Str × Way)) (H : Hp) : Prop where
  at_ : ∃ kvs : List (Key × V), H wd = some (.dK kvs) ∧ kvs.map (·.1) = ws.map (fun x => (Sum.inr x.1 : Key)) ∧ RpAll ex H (ws.map fun x => wayD x.2) (kvs.map (·.2))
theorem WaysAt.keep {ex : List Addr} {wd : Addr} {ws : List (Str × Way)} {H H' : Hp} (h : WaysAt ex wd ws H) (k : Kp [] H H') : WaysAt ex wd ws H' := by
  obtain ⟨kvs, e, n, r⟩ := h
  exact ⟨kvs, k _ _ (by simp) e, n, RpAll.keep (k.mono (by simp)) _ _ r⟩
theorem WaysAt.off {ex : List Addr} {wd od : Addr} {ws : List (Str × Way)} {H H' : Hp} (h : WaysAt ex wd ws H) (ho : od ∈ ex) (hn : wd ≠ od) (k : Kp [od] H H') : WaysAt ex wd ws H' := by
  obtain ⟨kvs, e, n, r⟩ := h
  exact ⟨kvs, k _ _ (by simpa using hn) e, n, RpAll.keep (k.mono (by simpa using ho)) _ _ r⟩
theorem val_none : ∀ {kvs : List (Key × V)} {k : Key}, k ∉ kvs.map (·.1) → valV kvs k = none
  | [], _, _ => rfl
  | p :: kvs, k, h => by
    rw [List.map_cons] at h
    rw [valV_neg (fun e => h (by rw [e]; exact List.mem_cons_self))]
    exact val_none fun z => h (List.mem_cons_of_mem _ z)
theorem WaysAt.put {ex : List Addr} {wd : Addr} {ws : List (Str × Way)} {H : Hp} (h : WaysAt ex wd ws H) (hw : wd ∈ ex) {id : Str} {w : Way} {v : V} (hid : id ∉ ws.map (·.1)) (hl : ws.length < sizeLine) (rv : Rp ex H (wayD w) v) :
    ∃ H', DPut H wd (.str id) v H' ∧ Kp [wd] H H' ∧ WaysAt ex wd (ws ++ [(id, w)]) H' := by
  obtain ⟨kvs, e, n, r⟩ := h
  have kp : Kp ex H (upd H wd (.dK (putK kvs (Sum.inr id : Key) v))) := Kp.put hw
  have nk : valV kvs (Sum.inr id : Key) = none := val_none (by
    rw [n]
    intro z
    obtain ⟨x, hx, e⟩ := List.mem_map.mp z
    exact hid (List.mem_map.mpr ⟨x, hx, Sum.inr.inj e⟩))
  have hk : kvs.length = ws.length := by
    have := congrArg List.length n
    simpa using this
  refine ⟨_, DPut.k (k := (Sum.inr id : Key)) e (by omega), Kp.put (by simp), _, upd_same, ?_, ?_⟩
  · rw [putK_new _ nk, List.map_append, List.map_append, n]
    rfl
  · have r2 := RpAll.app (RpAll.keep kp _ _ r) (RpAll.one (Rp.keep kp _ _ rv))
    rw [putK_new _ nk] at r2 ⊢
    rw [List.map_append, List.map_append]
    exact r2
theorem OnAt.off {ex : List Addr} {od wd : Addr} {o : Str → Way} {n : Nat} {H H' : Hp} (h : OnAt ex od o n H) (hw : wd ∈ ex) (hn : od ≠ wd) (k : Kp [wd] H H') : OnAt ex od o n H' := by
  obtain ⟨kvs, e, l, q⟩ := h
  refine ⟨kvs, k _ _ (by simpa using hn) e, l, fun c => ?_⟩
  have := q c
  cases hv : valV kvs (Sum.inr c : Key) with
  | none => rw [hv] at this; exact this
  | some v => rw [hv] at this; exact Rp.keep (k.mono (by simpa using hw)) _ _ this
theorem WaysAt.live {ex : List Addr} {wd : Addr} {ws : List (Str × Way)} {H H' : Hp} (h : WaysAt ex wd ws H') (lv : Live ex H) (k : Kp [wd] H H') : Live ex H' := fun b hb z => by
  by_cases hbw : b = wd
  · obtain ⟨kvs, e, _⟩ := h.at_
    rw [hbw, e] at z
    cases z
  · cases h0 : H b with
    | none => exact lv b hb h0
    | some u => rw [k b u (by simpa using hbw) h0] at z; cases z
theorem onB_w {e : Ent} {rest : List Ent} (h : e.isW = true) : onB (e :: rest) = readers e (wayFrom (onB rest) e.ws) (blocked e (onB rest)) := by
  cases e with
  | wr id rs ws pr => rfl
  | qu id cs => cases h
theorem onB_q {e : Ent} {rest : List Ent} (h : e.isW = false) : onB (e :: rest) = readers e (some (0, [])) (onB rest) := by
  cases e with
  | wr id rs ws pr => cases h
  | qu id cs => rfl
abbrev sGoBack : Stmt := topS 45
theorem scGoBack : FnScope ["onward", "entry", "labels", "way", "reading"] ["onward", "entry", "labels"] (defScope sGoBack) := ⟨rfl, rfl, rfl, by decide +kernel, rfl, by decide +kernel, by decide +kernel⟩
abbrev sCheapestWays : Stmt := topS 46
theorem scCheapestWays : FnScope ["log", "labels", "onward", "ways", "entry", "way"] ["log", "labels"] (defScope sCheapestWays) := ⟨rfl, rfl, rfl, by decide +kernel, rfl, by decide +kernel, by decide +kernel⟩
/-- a def of the top with defaults -/
structure FnD (K : PySem.W.Frag) (mg : Str → Option Value) (nm : Str) (st : Stmt) (ps : List Str) (dvs : List V) : Type where
  f : Addr
  fd : FuncData
  F : FunD K nm nm (defArgs st) (defBody st) (defScope st) dvs [] f fd
  m : mg nm = some (.ref f)
  ds : List Value
  vs : Vals dvs ds
  b : Binds K fd ps ds
  bf : Binds K fd ps []
section
variable {P : Program} {w : World} {K : PySem.W.Frag} {mg : Str → Option Value} {base : Heap}
theorem okD {x qual : Str} {st : Stmt} {dvs : List V} {kws : List (Str × V)} {f : Addr} {fd : FuncData} {N ps : List Str} {k : Nat} {sp : Sp} (F : FunD K x qual (defArgs st) (defBody st) (defScope st) dvs kws f fd) (S : FnScope N ps (defScope st)) (len : ∀ vs H Q E, sp vs H Q E → vs.length = ps.length)
    (hbody : ∀ (cdv : Value) (A : Around) (outer : List Env) (s : Shared) (H : Hp) (vs : List V) (Q : VK) (E : XK), Room k (A.deeper (envOfC qual (defScope st) s.heap.objs.size f cdv)) → sp vs H Q E →
      ∃ t, PSs (cxOf CX0 P w K mg base N qual (defScope st) f cdv A outer s H E).nox (defBody st) t ∧ t { nx := fun _ H' => Q .non H', rt := Q } (start N vs) H) : FnOk P w K mg base CX0 (k + 1) f fd ps sp := by
  obtain ⟨oc, od, dV, kV, doc, pm, an, cdv, ct, osl, rfl, lk, hcd, _, _⟩ := F.ex
  refine fn_of lk hcd S len fun A outer s H vs Q E hr hsp => ?_
  obtain ⟨t, h, q⟩ := hbody cdv A outer s H vs Q E hr hsp
  exact ⟨t, h.nox, q⟩
end
section
variable {X : Cx} {nm : Str} {st : Stmt} {ps : List Str} {dvs : List V} {sp : Sp} {e : Expr} {es : List Expr} {t : TA} {p pos : Pos} {j k : Nat}
theorem pe_fd (D : FnD X.K X.mg nm st ps dvs) (G : FnOk X.prog X.w X.K X.mg X.base CX0 j D.f D.fd ps sp) (hr : Room k X.A) (ha : PA X (e :: es) t)
    (hk : j ≤ k := by decide) (hg : Gl X nm := by rfl) (hdb : (nm == ("__debug__" : Str)) = false := by decide) (he : starEach (e :: es) X.env = (false, eval e X.env) :: starEach es X.env := by rfl) (hpl : (backTo pos (starEach es X.env)).any (·.1) = false := by rfl) :
    PE X (.Call (.Name nm p) (e :: es) [] pos) (tCall sp dvs (fun _ _ _ => False) t) := pe_call G (hr.mono hk) hg D.m D.F.kp D.b D.vs pass0 ha hdb he hpl
/-- every argument is written -/
theorem pe_ff (D : FnD X.K X.mg nm st ps dvs) (G : FnOk X.prog X.w X.K X.mg X.base CX0 j D.f D.fd ps sp) (hr : Room k X.A) (ha : PA X (e :: es) t)
    (hk : j ≤ k := by decide) (hg : Gl X nm := by rfl) (hdb : (nm == ("__debug__" : Str)) = false := by decide) (he : starEach (e :: es) X.env = (false, eval e X.env) :: starEach es X.env := by rfl) (hpl : (backTo pos (starEach es X.env)).any (·.1) = false := by rfl) :
    PE X (.Call (.Name nm p) (e :: es) [] pos) (tCall sp [] (fun _ _ _ => False) t) := pe_call G (hr.mono hk) hg D.m D.F.kp D.bf .nil pass0 ha hdb he hpl
end
def spWays : Sp := fun vs H Q _ => ∃ (v : V) (es : List Ent) (ex : List Addr), vs = [v, .non] ∧ Rp ex H (logD es) v ∧ (∀ e ∈ es, e.Ok) ∧ (es.map Ent.id).Nodup ∧ es.length ≤ 100 ∧ Live ex H ∧ ∀ wd H', Kp [] H H' → H wd = none → WaysAt ex wd (waysB es) H' → Q (.ref wd) H'
/-- the way from an entry -/
def wayGo (e : Ent) (o : Str → Way) : Way := if e.isW then wayFrom o e.ws else some (0, [])
theorem stepB_go (e : Ent) (o : Str → Way) : stepB e o = readers e (wayGo e o) (if e.isW then blocked e o else o) := by
  cases e with
  | wr id rs ws pr => rfl
  | qu id cs => rfl
def spGo : Sp := fun vs H Q _ => ∃ (od : Addr) (v : V) (e : Ent) (o : Str → Way) (n : Nat) (ex : List Addr), vs = [.ref od, v, .non] ∧ Rp ex H e.data v ∧ e.Ok ∧ od ∈ ex ∧ Live ex H ∧ OnAt ex od o n H ∧ n ≤ 99000 ∧ (∀ c, Short 999 (o c)) ∧
  ∀ u H', Kp [od] H H' → OnAt ex od (stepB e o) (n + 6) H' → Rp ex H' (wayD (wayGo e o)) u → Q u H'
section
variable {P : Program} {w : World} {K : PySem.W.Frag} {mg : Str → Option Value} {base : Heap}
theorem ok_goback (DGoBack : FnD K mg "go_back" sGoBack ["onward", "entry", "labels"] [.non]) (DWayFrom : Fn K mg "way_from" sWayFrom ["onward", "entry"]) (DAddBlocker : Fn K mg "add_blocker" sAddBlocker ["onward", "entry"]) (DAddReader : Fn K mg "add_reader" sAddReader ["onward", "entry", "way"])
    (g0 : ∃ u, mg "KIND" = some u ∧ L2.RelV (.int 0) u) (g1 : ∃ u, mg "ID" = some u ∧ L2.RelV (.int 1) u)
    (GWayFrom : FnOk P w K mg base CX0 2 DWayFrom.f DWayFrom.fd ["onward", "entry"] spFrom) (GAddBlocker : FnOk P w K mg base CX0 2 DAddBlocker.f DAddBlocker.fd ["onward", "entry"] spBlock) (GAddReader : FnOk P w K mg base CX0 2 DAddReader.f DAddReader.fd ["onward", "entry", "way"] spRead) :
    FnOk P w K mg base CX0 3 DGoBack.f DGoBack.fd ["onward", "entry", "labels"] spGo := by
  refine okD DGoBack.F scGoBack (fun vs H Q E h => ?_) (fun cdv A outer s H vs Q E hr h => ?_)
  · obtain ⟨od, v, e, o, n, ex, rfl, _⟩ := h
    rfl
  obtain ⟨od, v, e, o, n, ex, rfl, re, oke, hod, lv, on, hn, sh, q⟩ := h
  have hu := hu_of hr
  refine ⟨_, pss_cons (ps_asg2 (pe_tup (pa_cons pe_int (pa_cons (pe_tup pa_nil) pa_nil))) (pg_name (i := 3) scGoBack.nd rfl (.inl rfl)) (pg_name (i := 4) scGoBack.nd rfl (.inl rfl)))
      (pss_cons (ps_if (pt_cmpR op_eq (pe_ix (ixtE K) (pv 1) (pe_gc (v := .int 0) rfl g0) (fun _ _ => rfl)) pe_str (nomark _))
      (pss_cons (ps_asg2 (pe_fn DWayFrom GWayFrom hr (pa_cons (pv 0) (pa_cons (pv 1) pa_nil))) (pg_name (i := 3) scGoBack.nd rfl (.inl rfl)) (pg_name (i := 4) scGoBack.nd rfl (.inl rfl)))
      (pss_cons (ps_if (pt_cmpR op_notN (pv 2) pe_non (nomark _))
      (pss_one (ps_dead _))
      pss_nil)
      (pss_one (ps_expr (pe_fn DAddBlocker GAddBlocker hr (pa_cons (pv 0) (pa_cons (pv 1) pa_nil)))))))
      pss_nil)
      (pss_cons (ps_if (pt_cmpR op_notN (pv 4) pe_non (nomark _))
      (pss_one (ps_expr (pe_fn DAddReader GAddReader hr (pa_cons (pv 0) (pa_cons (pv 1) (pa_cons (pv 4) pa_nil))))))
      pss_nil)
      (pss_one (ps_ret (pv 3))))), ?_⟩
  refine ⟨(by show 0 ≤ sizeLine; decide), fun p0 n0 => ⟨(by show 2 ≤ sizeLine; decide), fun t nt => ?_⟩⟩
  have kp0 : Kp [] H (upd H p0 (.tup [])) := Kp.laid n0
  have kt : Kp [] (upd H p0 (.tup [])) (upd (upd H p0 (.tup [])) t (.tup [.int 0, .ref p0])) := Kp.laid nt
  have rp0 : Rp ex (upd H p0 (.tup [])) (pathD []) (.ref p0) := rp_new (lv.fresh n0) n0 rfl
  have rt : Rp ex (upd (upd H p0 (.tup [])) t (.tup [.int 0, .ref p0])) (someD (0, [])) (.ref t) := rp_new ((lv.kp0 kp0).fresh nt) nt ⟨_, _, rfl, rfl, RpAll.one rp0⟩
  generalize upd (upd H p0 (.tup [])) t (.tup [.int 0, .ref p0]) = H3 at kt rt ⊢
  have k3 := kp0.trans kt
  have lv3 := lv.kp0 k3
  have on3 := on.keep k3
  have re3 := Rp.keep (k3.mono (ex' := ex) (by simp)) _ _ re
  have k03 : Kp [od] H H3 := k3.mono (by simp)
  obtain ⟨d0, ed0, hd0⟩ := ent_kind e
  refine ⟨_, rfl, c_of (ent_ix re3 ed0 hd0 rfl fun vk rk => ?_)⟩
  obtain rfl : vk = .str (if e.isW then "write" else "query") := rk
  refine ⟨rfl, _, rfl, ?_⟩
  have hsb := stepB_go e o
  cases hw : e.isW with
  | true =>
    rw [show decide (V.str (if true = true then ("write" : Str) else "query") = V.str "write") = true from decide_eq_true rfl]
    rw [hw, if_pos rfl] at hsb
    have hgo : wayGo e o = wayFrom o e.ws := by unfold wayGo; rw [hw, if_pos rfl]
    rw [hgo] at hsb q
    refine iteT ⟨_, rfl, _, rfl, od, v, e, o, n, ex, rfl, re3, hw, oke.ws.2, lv3, on3, fun u H4 k4 ru => ?_⟩
    have re4 := Rp.keep (k4.mono (ex' := ex) (by simp)) _ _ re3
    refine ⟨_, rfl, rfl, _, rfl, iteF ?_⟩
    have lv4 := lv3.kp0 k4
    refine ⟨_, rfl, _, rfl, od, v, e, o, n, ex, rfl, re4, hw, oke.ws.1, oke.ws.2, hod, lv4, on3.keep k4, by omega, fun H6 k6 on6 => ?_⟩
    have k6' : Kp ex H4 H6 := k6.mono (by simpa using hod)
    have k06 : Kp [od] H H6 := (k03.trans (k4.mono (by simp))).trans k6
    have ru6 := Rp.keep k6' _ _ ru
    refine ⟨_, rfl, rfl, _, rfl, ?_⟩
    cases hy : wayFrom o e.ws with
    | none =>
      rw [hy] at ru6 hsb q
      obtain rfl : u = .non := ru6
      refine iteF ⟨_, rfl, q _ _ k06 ?_ rfl⟩
      rw [hsb]
      refine (on6.more (by omega)).same fun c => ?_
      unfold readers
      split <;> rfl
    | some y =>
      rw [hy] at ru6 hsb q
      have nx : u ≠ .non := by
        obtain ⟨a, xs, rfl, _⟩ := ru6
        exact fun z => by cases z
      rw [decide_eq_false nx]
      have re6 := Rp.keep k6' _ _ re4
      have sh' : y.2.length ≤ 1000 := by
        have := short_from (cs := e.ws) sh y hy
        omega
      refine iteT ⟨_, rfl, _, rfl, _, rfl, od, v, u, e, y, blocked e o, n + 3, ex, rfl, re6, ru6, sh', oke.rs.1, oke.rs.2, hod, on6.live lv4 k6, on6, by omega, fun H7 k7 on7 => ⟨_, rfl, q _ _ (k06.trans k7) ?_ (Rp.keep (k7.mono (by simpa using hod)) _ _ ru6)⟩⟩
      rw [hsb]
      exact on7.more (by omega)
  | false =>
    rw [show decide (V.str (if false = true then ("write" : Str) else "query") = V.str "write") = false from decide_eq_false (by intro h; exact absurd (V.str.inj h) (by decide))]
    rw [hw, if_neg Bool.false_ne_true] at hsb
    have hgo : wayGo e o = some (0, []) := by unfold wayGo; rw [hw, if_neg Bool.false_ne_true]
    rw [hgo] at hsb q
    refine iteF ⟨_, rfl, rfl, _, rfl, ?_⟩
    refine iteT ⟨_, rfl, _, rfl, _, rfl, od, v, .ref t, e, (0, []), o, n, ex, rfl, re3, rt, Nat.zero_le _, oke.rs.1, oke.rs.2, hod, lv3, on3, by omega, fun H7 k7 on7 => ⟨_, rfl, q _ _ (k03.trans k7) ?_ (Rp.keep (k7.mono (by simpa using hod)) _ _ rt)⟩⟩
    rw [hsb]
    exact on7.more (by omega)
theorem ok_ways (DCheapestWays : FnD K mg "cheapest_ways" sCheapestWays ["log", "labels"] [.non]) (DGoBack : FnD K mg "go_back" sGoBack ["onward", "entry", "labels"] [.non])
    (b_reversed : mg "reversed" = none) (g0 : ∃ u, mg "KIND" = some u ∧ L2.RelV (.int 0) u) (g1 : ∃ u, mg "ID" = some u ∧ L2.RelV (.int 1) u)
    (GGoBack : FnOk P w K mg base CX0 3 DGoBack.f DGoBack.fd ["onward", "entry", "labels"] spGo) :
    FnOk P w K mg base CX0 4 DCheapestWays.f DCheapestWays.fd ["log", "labels"] spWays := by
  refine okD DCheapestWays.F scCheapestWays (fun vs H Q E h => ?_) (fun cdv A outer s H vs Q E hr h => ?_)
  · obtain ⟨v, es, ex, rfl, _⟩ := h
    rfl
  obtain ⟨v, es, ex, rfl, rv, ok, nd, h100, lv, q⟩ := h
  have hu := hu_of hr
  have line : (100003 : Nat) < sizeLine := by decide
  refine ⟨_, pss_cons (ps_set (i := 2) scCheapestWays.nd rfl (.inl rfl) pe_dnewK)
      (pss_cons (ps_set (i := 3) scCheapestWays.nd rfl (.inl rfl) pe_dnewK)
      (pss_cons (ps_for PassesOwn.never rfl (RT.pi_revA (by rfl) b_reversed (pv 0)) (pg_name (i := 4) scCheapestWays.nd rfl (.inl rfl))
      (pss_cons (ps_set (i := 5) scCheapestWays.nd rfl (.inl rfl) (pe_ff DGoBack GGoBack hr (pa_cons (pv 2) (pa_cons (pv 4) (pa_cons (pv 1) pa_nil)))))
      (pss_one (ps_if (pt_cmpR op_eq (pe_ix (ixtE K) (pv 4) (pe_gc (v := .int 0) rfl g0) (fun _ _ => rfl)) pe_str (nomark _))
      (pss_one (ps_dput hu (pv 3) (pe_ix (ixtE K) (pv 4) (pe_gc (v := .int 1) rfl g1) (fun _ _ => rfl)) (pv 5) rfl))
      pss_nil))))
      (pss_one (ps_ret (pv 3))))), ?_⟩
  intro od nod
  have k0 : Kp [] H (upd H od (.dK [])) := Kp.laid nod
  have rv0 := Rp.keep (k0.mono (by simp)) _ _ (Rp.apart nod _ _ rv)
  have lv0 : Live (od :: ex) (upd H od (.dK [])) := fun b hb => by
    rcases List.mem_cons.mp hb with z | z
    · rw [z, upd_same]; exact fun q => by cases q
    · exact lv.kp0 k0 b z
  have ho0 : (upd H od (.dK [])) od = some (.dK []) := upd_same
  generalize upd H od (.dK []) = H0 at k0 rv0 lv0 ho0 ⊢
  intro wd nwd
  have k1 : Kp [] H0 (upd H0 wd (.dK [])) := Kp.laid nwd
  have rv1 := Rp.keep (k1.mono (by simp)) _ _ (Rp.apart nwd _ _ rv0)
  have lv1 : Live (wd :: od :: ex) (upd H0 wd (.dK [])) := fun b hb => by
    rcases List.mem_cons.mp hb with z | z
    · rw [z, upd_same]; exact fun q => by cases q
    · exact lv0.kp0 k1 b z
  have ho1 : (upd H0 wd (.dK [])) od = some (.dK []) := k1 _ _ (by simp) ho0
  have hw1 : (upd H0 wd (.dK [])) wd = some (.dK []) := upd_same
  have nwo : wd ≠ od := fun z => by rw [z, ho0] at nwd; cases nwd
  have hwd : H wd = none := by
    cases h : H wd with
    | none => rfl
    | some u => rw [k0 _ _ (by simp) h] at nwd; cases nwd
  have back : ∀ {H' : Hp}, Kp [od, wd] (upd H0 wd (.dK [])) H' → Kp [] H H' := fun k => by
    have a : Kp [od, wd] H _ := ((k0.trans k1).mono (by simp)).trans k
    exact Kp.drop (Kp.drop a nod) hwd
  obtain ⟨H1, e1⟩ : ∃ H1, upd H0 wd (.dK []) = H1 := ⟨_, rfl⟩
  rw [e1] at k1 rv1 lv1 ho1 hw1
  have back : ∀ {H' : Hp}, Kp [od, wd] H1 H' → Kp [] H H' := fun k => back (by rw [e1]; exact k)
  rw [e1]
  obtain ⟨a, xs, rfl, na, ha, hxs⟩ := rv1
  have hl : es.length = xs.length := by
    have := hxs.length
    rwa [List.length_map] at this
  have nao : a ≠ od := fun z => na (by rw [z]; simp)
  have naw : a ≠ wd := fun z => na (by rw [z]; simp)
  have atT : ∀ {H' : Hp}, Kp [od, wd] H1 H' → SqT K H' a xs := fun k => .inl (.inl (k _ _ (by simp [nao, naw]) ha))
  let Inv_ : Nat → L2.St → Hp → Prop := fun j σ H' => ∃ c4 c5 : Option V, σ = [some (.ref a), some .non, some (.ref od), some (.ref wd), c4, c5] ∧ Kp [od, wd] H1 H' ∧ OnAt (wd :: od :: ex) od (onB (es.drop (es.length - j))) (6 * j) H' ∧ WaysAt (wd :: od :: ex) wd (waysB (es.drop (es.length - j))) H'
  have start : Inv_ 0 [some (.ref a), some .non, some (.ref od), some (.ref wd), none, none] H1 := by
    refine ⟨none, none, rfl, Kp.refl, ⟨[], ho1, Nat.le_refl _, fun c => ?_⟩, ⟨[], hw1, ?_, ?_⟩⟩
    · rw [Nat.sub_zero, List.drop_length]; rfl
    · rw [Nat.sub_zero, List.drop_length]; rfl
    · rw [Nat.sub_zero, List.drop_length]; rfl
  refine ⟨_, rfl, a, xs, rfl, .inr ⟨.inl (.inl ha), ?_⟩⟩
  refine ⟨fun j m σ H' => m = xs.length - j ∧ j ≤ xs.length ∧ Inv_ j σ H', ⟨xs.length, by simp, Nat.zero_le _, start⟩, ?_⟩
  rintro j m σ H' ⟨rfl, hj, c4, c5, rfl, k, on, ws⟩
  rcases Nat.lt_or_ge j xs.length with lt | ge
  · have hix : xs.length - 1 - j < xs.length := by omega
    have hie : xs.length - 1 - j < es.length := by omega
    refine .inr ⟨⟨lt, xs, _, atT k, List.getElem?_eq_getElem hix⟩, Inv_ (j + 1), fun σ' H2 i => ⟨xs.length - (j + 1), by omega, rfl, by omega, i⟩, ?_⟩
    rintro x H2 ⟨rfl, hx⟩
    have hx := hx xs (atT k)
    obtain ⟨d, hd, rd⟩ := RpAll.back hxs hx
    obtain ⟨e, he, rfl⟩ : ∃ e, es[xs.length - 1 - j]? = some e ∧ e.data = d := by
      rw [List.getElem?_map] at hd
      cases h : es[xs.length - 1 - j]? with
      | none => rw [h] at hd; cases hd
      | some e => rw [h] at hd; exact ⟨e, rfl, Option.some.inj hd⟩
    have hmem := List.mem_of_getElem? he
    have oke := ok e hmem
    have hdrop : es.drop (es.length - (j + 1)) = e :: es.drop (es.length - j) := by
      have h1 : es.length - (j + 1) = xs.length - 1 - j := by omega
      have h2 : es.length - j = xs.length - 1 - j + 1 := by omega
      rw [h1, h2, List.drop_eq_getElem_cons hie]
      congr 1
      exact (List.getElem?_eq_some_iff.mp he).2
    generalize hrest : es.drop (es.length - j) = rest at on ws hdrop
    have hrl : rest.length ≤ 100 := by rw [← hrest, List.length_drop]; omega
    have ndr : ((e :: rest).map Ent.id).Nodup := by
      rw [← hdrop]
      exact nd.sublist (List.Sublist.map _ (List.drop_sublist _ _))
    have keep : ∀ {H3 : Hp}, Kp [od, wd] H1 H3 → Kp (wd :: od :: ex) H1 H3 := fun k => k.mono (by simp)
    have re : Rp (wd :: od :: ex) H2 e.data x := Rp.keep (keep k) _ _ rd
    have hod : od ∈ wd :: od :: ex := by simp
    have hwd' : wd ∈ wd :: od :: ex := by simp
    have lv2 : Live (wd :: od :: ex) H2 := fun b hb z => by
      by_cases hb1 : b = od
      · obtain ⟨kvs, ek, _⟩ := on.at_
        rw [hb1, ek] at z; cases z
      · by_cases hb2 : b = wd
        · obtain ⟨kvs, ek, _⟩ := ws.at_
          rw [hb2, ek] at z; cases z
        · cases h0 : H1 b with
          | none => exact lv1 b hb h0
          | some u => rw [k b u (by simp [hb1, hb2]) h0] at z; cases z
    have sh : ∀ c, Short 999 (onB rest c) := fun c => (short_on rest c).up (by omega)
    have hst : onB (e :: rest) = stepB e (onB rest) := rfl
    refine ⟨_, rfl, _, rfl, _, rfl, od, x, e, onB rest, 6 * j, wd :: od :: ex, rfl, re, oke, hod, lv2, on, by omega, sh, fun u H3 k3 on3 ru => ?_⟩
    have k13 : Kp [od, wd] H1 H3 := k.trans (k3.mono (by simp))
    have re3 := Rp.keep (k3.mono (ex' := wd :: od :: ex) (by simp)) _ _ re
    have ws3 := ws.off hod nwo k3
    obtain ⟨d0, ed0, hd0⟩ := ent_kind e
    obtain ⟨d1, ed1, hd1, _⟩ := ent_reads e
    refine ⟨_, rfl, c_of (ent_ix re3 ed0 hd0 rfl fun vk rk => ?_)⟩
    obtain rfl : vk = .str (if e.isW then "write" else "query") := rk
    refine ⟨rfl, _, rfl, ?_⟩
    have hnew : e.id ∉ (waysB rest).map (·.1) := by
      rw [waysB_ids, List.mem_reverse]
      intro z
      obtain ⟨u, hu, hid⟩ := List.mem_map.mp z
      exact (List.nodup_cons.mp ndr).1 (List.mem_map.mpr ⟨u, (List.mem_filter.mp hu).1, hid⟩)
    have hwl : (waysB rest).length ≤ 100 := by
      have := congrArg List.length (waysB_ids rest)
      rw [List.length_map, List.length_reverse, List.length_map] at this
      rw [this]
      exact Nat.le_trans (List.length_filter_le _ _) hrl
    cases hw : e.isW with
    | true =>
      rw [show decide (V.str (if true = true then ("write" : Str) else "query") = V.str "write") = true from decide_eq_true rfl]
      have hgo : wayGo e (onB rest) = wayFrom (onB rest) e.ws := by unfold wayGo; rw [hw, if_pos rfl]
      rw [hgo] at ru
      refine iteT ⟨_, rfl, _, rfl, _, rfl, c_of (ent_ix re3 ed1 hd1 rfl fun vi ri => ?_)⟩
      obtain rfl : vi = .str e.id := ri
      obtain ⟨H5, dp, k5, ws5⟩ := ws3.put hwd' hnew (by omega) ru
      refine ⟨wd, H5, rfl, dp, _, _, rfl, k13.trans (k5.mono (by simp)), ?_, ?_⟩
      · rw [hdrop, hst]
        exact (on3.off hwd' (fun z => nwo z.symm) k5).more (by omega)
      · rw [hdrop]
        unfold waysB
        rw [hw]
        exact ws5
    | false =>
      rw [show decide (V.str (if false = true then ("write" : Str) else "query") = V.str "write") = false from decide_eq_false (by intro h; exact absurd (V.str.inj h) (by decide))]
      refine iteF ⟨_, _, rfl, k13, ?_, ?_⟩
      · rw [hdrop, hst]
        exact on3.more (by omega)
      · rw [hdrop]
        unfold waysB
        rw [hw]
        simp only [Bool.false_eq_true, if_false, List.append_nil]
        exact ws3
  · have ej : j = xs.length := by omega
    refine .inl ⟨ge, _, rfl, ?_⟩
    rw [ej, ← hl, Nat.sub_self, List.drop_zero] at ws
    refine q wd H' (back k) hwd ?_
    obtain ⟨kvs, e, n, r⟩ := ws.at_
    exact ⟨kvs, e, n, RpAll.less (by intro b hb; simp [hb]) _ _ r⟩
end
end NV
/-! EndD -/
set_option Elab.async false
set_option linter.all false
set_option maxRecDepth 100000
set_option maxHeartbeats 600000
/-! a def of the top with one default, None -/
namespace NV
open PySem PySem.Spec PyProof.Rows L2
def AtD (K : PySem.W.Frag) (nm : Str) (st : Stmt) (dvs : List V) : Prop := ∃ (f : Addr) (fd : FuncData), PySem.W.nsIn K mainGlobals nm = some (some (.ref f)) ∧ FunD K nm nm (defArgs st) (defBody st) (defScope st) dvs [] f fd
section
variable {K : PySem.W.Frag} {h : Heap} {mg : Str → Option Value} {nm : Str} {st : Stmt}
theorem atD_mk {f T : Addr} {oc oT : Value} {od dT : Option Addr} {kV doc pm : Value} {an : Option Addr} {cd ct : Value} {sl sT : Array (Option Value)} {n : Nat} (a : PySem.W.nsIn K mainGlobals nm = some (some (.ref f))) (l : K.lookup f = some ⟨oc, od, .func (PySem.W.fnOf nm nm (defArgs st) (defBody st) (defScope st) (.ref T) kV doc pm an cd ct), sl⟩)
    (c : PySem.W.codeIn K cd nm = true) (k : PySem.W.keepIn K (.ref f) = true) (t : K.lookup T = some ⟨oT, dT, .seq #[Value.none] n, sT⟩) : AtD K nm st [.non] :=
  ⟨f, _, a, ⟨⟨oc, od, .ref T, kV, doc, pm, an, cd, ct, sl, rfl, l, c, .inr ⟨by simp, T, _, [Value.none], n, rfl, t, rfl, .cons rfl .nil⟩, .inl rfl⟩, k⟩⟩
theorem fnd_at {ps : List Str} {dvs : List V} (X : K.In h) (G : h.Ns mainGlobals mg) (a : AtD K nm st (dvs := dvs)) (n : Nat) (hn : n + (dvs.length - 0) = ps.length)
    (hb : ∀ (T : Addr) (kV doc pm : Value) (an : Option Addr) (cdv ct : Value) (us its : List Value), us.length = n → its.length = dvs.length →
      ∃ k, bindArgs (PySem.W.fnOf nm nm (defArgs st) (defBody st) (defScope st) (.ref T) kV doc pm an cdv ct) ⟨us, []⟩ = seqItems? (.ref T) >>= k ∧ k (some its.toArray) = pure (ps.zip (us ++ its.drop 0))) 
    (hf : ∀ (T : Addr) (kV doc pm : Value) (an : Option Addr) (cdv ct : Value) (us its : List Value), us.length = ps.length → its.length = dvs.length →
      ∃ k, bindArgs (PySem.W.fnOf nm nm (defArgs st) (defBody st) (defScope st) (.ref T) kV doc pm an cdv ct) ⟨us, []⟩ = seqItems? (.ref T) >>= k ∧ k (some its.toArray) = pure (ps.zip us)) (hd : dvs ≠ [] := by simp) : Nonempty (FnD K mg nm st ps dvs) := by
  obtain ⟨f, fd, a1, F⟩ := a
  obtain ⟨ds, hv, b⟩ := F.binds1 n 0 hd hn hb
  obtain ⟨ds2, hv2, b2⟩ := F.binds1 ps.length dvs.length (ps := ps) hd (by omega) fun T kV doc pm an cdv ct us its h1 h2 => by
    obtain ⟨k, e1, e2⟩ := hf T kV doc pm an cdv ct us its h1 h2
    exact ⟨k, e1, by rw [List.drop_of_length_le (by omega), List.append_nil]; exact e2⟩
  rw [List.drop_length] at hv2
  cases hv2
  exact ⟨⟨f, fd, F, PySem.W.mg_of X G a1, ds, hv, b, b2⟩⟩
end
end NV
/-! T1 -/
set_option Elab.async false
set_option linter.all false
set_option maxRecDepth 100000
set_option maxHeartbeats 600000
/-! what a target depends on: backwards through the log, and by the last writers -/
namespace NV
open PySem PySem.Spec PyProof.Rows L2
abbrev Row := Str × Str × Option Str
/-! ### backwards, as the package does -/
def openIn (e : Ent) (r : Row) : Bool := r.2.2.isNone && decide (r.2.1 ∈ e.ws)
def closeR (e : Ent) (r : Row) : Row := if openIn e r then (r.1, r.2.1, some e.id) else r
def stepT (e : Ent) (rows : List Row) : List Row := if rows.any (openIn e) then rows.map (closeR e) ++ e.rs.map (fun c => (e.id, c, none)) else rows
/-! ### by the last writers -/
def wr (es : List Ent) (n : Nat) (c : Str) : Bool := match es[n]? with
  | some e => decide (c ∈ e.ws)
  | none => false
/-- the last before n that writes the cell -/
def lastIx (es : List Ent) : Nat → Str → Option Nat
  | 0, _ => none
  | n + 1, c => if wr es n c then some n else lastIx es n c
theorem lastIx_lt {es : List Ent} {c : Str} : ∀ {n j : Nat}, lastIx es n c = some j → j < n ∧ wr es j c = true
  | n + 1, j, h => by
    unfold lastIx at h
    cases hw : wr es n c with
    | true =>
      rw [hw, if_pos rfl] at h
      obtain rfl := Option.some.inj h
      exact ⟨Nat.lt_succ_self _, hw⟩
    | false =>
      rw [hw, if_neg Bool.false_ne_true] at h
      obtain ⟨h1, h2⟩ := lastIx_lt h
      exact ⟨by omega, h2⟩
theorem lastIx_ge {es : List Ent} {c : Str} {p : Nat} (hw : wr es p c = true) : ∀ {n : Nat}, p < n → ∃ j, lastIx es n c = some j ∧ p ≤ j
  | n + 1, h => by
    unfold lastIx
    cases hn : wr es n c with
    | true => exact ⟨n, by rw [if_pos rfl], by omega⟩
    | false =>
      rw [if_neg Bool.false_ne_true]
      have : p ≠ n := fun z => by rw [z, hn] at hw; cases hw
      exact lastIx_ge hw (by omega)
def nameAt (es : List Ent) (j : Nat) : Str := match es[j]? with
  | some e => e.id
  | none => ""
/-- a source that is found from p on -/
def shown (es : List Ent) (p : Nat) : Option Nat → Option Str
  | some j => if p ≤ j then some (nameAt es j) else none
  | none => none
theorem shown_yes {es : List Ent} {p j : Nat} (h : p ≤ j) : shown es p (some j) = some (nameAt es j) := if_pos h
theorem shown_no {es : List Ent} {p j : Nat} (h : ¬ p ≤ j) : shown es p (some j) = none := if_neg h
/-- a row told by place: who reads, what, from which position -/
abbrev Ask := Str × Str × Nat
def rowA (es : List Ent) (p : Nat) (q : Ask) : Row := (q.1, q.2.1, shown es p (lastIx es q.2.2 q.2.1))
def asksAt (es : List Ent) (i : Nat) : List Ask := match es[i]? with
  | some e => e.rs.map fun c => (e.id, c, i)
  | none => []
def hits (es : List Ent) (p : Nat) (qs : List Ask) : Bool := qs.any fun q => decide (lastIx es q.2.2 q.2.1 = some p)
/-- what is asked when all from p on is read -/
def asks (es : List Ent) (q : Ask) : Nat → List Ask
  | 0 => [q]
  | n + 1 => if hits es (q.2.2 - (n + 1)) (asks es q n) then asks es q n ++ asksAt es (q.2.2 - (n + 1)) else asks es q n
def backN (es : List Ent) (k : Nat) (row : Row) : Nat → List Row
  | 0 => [row]
  | n + 1 => match es[k - (n + 1)]? with
    | some e => stepT e (backN es k row n)
    | none => backN es k row n
theorem asks_pos {es : List Ent} {q : Ask} : ∀ {n : Nat}, n ≤ q.2.2 → ∀ r ∈ asks es q n, q.2.2 - n ≤ r.2.2
  | 0, _, r, h => by
    rw [List.mem_singleton.mp h]
    omega
  | n + 1, hn, r, h => by
    unfold asks at h
    by_cases hh : hits es (q.2.2 - (n + 1)) (asks es q n) = true
    · rw [if_pos hh] at h
      rcases List.mem_append.mp h with z | z
      · have := asks_pos (n := n) (by omega) r z
        omega
      · unfold asksAt at z
        cases he : es[q.2.2 - (n + 1)]? with
        | none => rw [he] at z; cases z
        | some e =>
          rw [he] at z
          obtain ⟨c, _, rfl⟩ := List.mem_map.mp z
          exact Nat.le_refl _
    · rw [if_neg hh] at h
      have := asks_pos (n := n) (by omega) r h
      omega
/-- one row, one entry further back -/
theorem open_iff {es : List Ent} {p : Nat} {e : Ent} {q : Ask} (he : es[p]? = some e) (hq : p < q.2.2) : openIn e (rowA es (p + 1) q) = decide (lastIx es q.2.2 q.2.1 = some p) := by
  have hw : wr es p q.2.1 = decide (q.2.1 ∈ e.ws) := by
    unfold wr
    rw [he]
  unfold openIn rowA
  dsimp only
  cases hl : lastIx es q.2.2 q.2.1 with
  | none =>
    have : decide (q.2.1 ∈ e.ws) = false := by
      rw [← hw]
      cases h : wr es p q.2.1 with
      | false => rfl
      | true =>
        obtain ⟨j, hj, _⟩ := lastIx_ge h hq
        rw [hl] at hj; cases hj
    rw [this, Bool.and_false]
    rfl
  | some j =>
    obtain ⟨_, hj⟩ := lastIx_lt hl
    by_cases h : p + 1 ≤ j
    · rw [shown_yes h]
      have : ¬ (some j = some p) := fun z => by have := Option.some.inj z; omega
      rw [decide_eq_false this]
      rfl
    · rw [shown_no h]
      by_cases hjp : j = p
      · subst hjp
        rw [← hw, hj, decide_eq_true (rfl : some j = some j)]
        rfl
      · have : decide (q.2.1 ∈ e.ws) = false := by
          rw [← hw]
          cases hx : wr es p q.2.1 with
          | false => rfl
          | true =>
            obtain ⟨j', hj', le⟩ := lastIx_ge hx hq
            rw [hl] at hj'
            have := Option.some.inj hj'
            omega
        rw [this, Bool.and_false, decide_eq_false (fun z => hjp (Option.some.inj z))]
theorem close_row {es : List Ent} {p : Nat} {e : Ent} {q : Ask} (he : es[p]? = some e) (hq : p < q.2.2) : closeR e (rowA es (p + 1) q) = rowA es p q := by
  unfold closeR
  rw [open_iff he hq]
  unfold rowA
  cases hl : lastIx es q.2.2 q.2.1 with
  | none => rw [decide_eq_false (by simp), if_neg Bool.false_ne_true]; rfl
  | some j =>
    by_cases hj : j = p
    · subst hj
      rw [decide_eq_true rfl, if_pos rfl]
      rw [shown_yes (Nat.le_refl _)]
      unfold nameAt
      rw [he]
    · rw [decide_eq_false (fun z => hj (Option.some.inj z)), if_neg Bool.false_ne_true]
      by_cases h : p + 1 ≤ j
      · rw [shown_yes h, shown_yes (by omega)]
      · rw [shown_no h, shown_no (by omega)]
/-- the package's rows are those of the last writers -/
theorem back_asks {es : List Ent} {q : Ask} (hk : q.2.2 ≤ es.length) : ∀ n, n ≤ q.2.2 → backN es q.2.2 (q.1, q.2.1, none) n = (asks es q n).map (rowA es (q.2.2 - n))
  | 0, _ => by
    show [(q.1, q.2.1, none)] = [rowA es (q.2.2 - 0) q]
    unfold rowA
    cases hl : lastIx es q.2.2 q.2.1 with
    | none => rfl
    | some j =>
      have := (lastIx_lt hl).1
      rw [shown_no (by omega)]
  | n + 1, hn => by
    have ih := back_asks hk n (by omega)
    obtain ⟨e, he⟩ : ∃ e, es[q.2.2 - (n + 1)]? = some e := ⟨_, List.getElem?_eq_getElem (by omega)⟩
    have hp : q.2.2 - n = q.2.2 - (n + 1) + 1 := by omega
    have pos : ∀ r ∈ asks es q n, q.2.2 - (n + 1) < r.2.2 := fun r hr => by
      have := asks_pos (n := n) (by omega) r hr
      omega
    show (match es[q.2.2 - (n + 1)]? with | some e => stepT e (backN es q.2.2 (q.1, q.2.1, none) n) | none => backN es q.2.2 (q.1, q.2.1, none) n) = _
    rw [he]
    dsimp only
    rw [ih, hp]
    have hany : ((asks es q n).map (rowA es (q.2.2 - (n + 1) + 1))).any (openIn e) = hits es (q.2.2 - (n + 1)) (asks es q n) := by
      unfold hits
      rw [List.any_map]
      apply Bool.eq_iff_iff.mpr
      rw [List.any_eq_true, List.any_eq_true]
      constructor
      · rintro ⟨r, hr, h⟩
        exact ⟨r, hr, by rw [← open_iff he (pos r hr)]; exact h⟩
      · rintro ⟨r, hr, h⟩
        exact ⟨r, hr, by show openIn e (rowA es _ r) = true; rw [open_iff he (pos r hr)]; exact h⟩
    have hmap : ((asks es q n).map (rowA es (q.2.2 - (n + 1) + 1))).map (closeR e) = (asks es q n).map (rowA es (q.2.2 - (n + 1))) := by
      rw [List.map_map]
      exact List.map_congr_left fun r hr => close_row he (pos r hr)
    unfold stepT
    rw [hany]
    show _ = (if hits es (q.2.2 - (n + 1)) (asks es q n) then asks es q n ++ asksAt es (q.2.2 - (n + 1)) else asks es q n).map (rowA es (q.2.2 - (n + 1)))
    by_cases hh : hits es (q.2.2 - (n + 1)) (asks es q n) = true
    · rw [if_pos hh, if_pos hh, List.map_append, hmap]
      congr 1
      unfold asksAt
      rw [he]
      dsimp only
      rw [List.map_map]
      refine List.map_congr_left fun c _ => ?_
      show ((e.id, c, none) : Row) = (e.id, c, shown es (q.2.2 - (n + 1)) (lastIx es (q.2.2 - (n + 1)) c))
      cases hl : lastIx es (q.2.2 - (n + 1)) c with
      | none => rfl
      | some j =>
        have := (lastIx_lt hl).1
        rw [shown_no (by omega)]
    · rw [if_neg hh, if_neg hh]
      refine List.map_congr_left fun r hr => ?_
      rw [← close_row he (pos r hr)]
      have no : openIn e (rowA es (q.2.2 - (n + 1) + 1) r) = false := by
        rw [open_iff he (pos r hr)]
        cases hd : decide (lastIx es r.2.2 r.2.1 = some (q.2.2 - (n + 1))) with
        | false => rfl
        | true => exact absurd (List.any_eq_true.mpr ⟨r, hr, hd⟩) hh
      unfold closeR
      rw [no, if_neg Bool.false_ne_true]
end NV
/-! CkL -/
set_option Elab.async false
set_option linter.all false
set_option maxRecDepth 100000
set_option maxHeartbeats 1000000
/-! the package's check_log -/
namespace NV
open PySem PySem.Spec PyProof.Rows L2
open C8 (pss_cut pe_gc)
abbrev sCheckLog : Stmt := topS 30
theorem scCheckLog : FnScope ["log"] ["log"] (defScope sCheckLog) := ⟨rfl, rfl, rfl, by decide +kernel, rfl, by decide +kernel, by decide +kernel⟩
def spCheck : Sp := fun vs H Q _ => ∃ (v : V) (es : List Ent) (ex : List Addr), vs = [v] ∧ Rp ex H (logD es) v ∧ LogOk es ∧ es.length ≤ 60 ∧ ∀ H', Kp [] H H' → Q .non H'
section
variable {P : Program} {w : World} {K : PySem.W.Frag} {mg : Str → Option Value} {base : Heap}
theorem ok_checklog (DCheckLog : Fn K mg "check_log" sCheckLog ["log"]) (DIsLog : Fn K mg "is_log" sIsLog ["value"]) (GIsLog : FnOk P w K mg base CX0 6 DIsLog.f DIsLog.fd ["value"] (spAskD logD')) : FnOk P w K mg base CX0 7 DCheckLog.f DCheckLog.fd ["log"] spCheck := by
  refine DCheckLog.F.ok scCheckLog (fun vs H Q E h => ?_) (fun cdv A outer s H vs Q E hr h => ?_)
  · obtain ⟨v, es, ex, rfl, _⟩ := h
    rfl
  obtain ⟨v, es, ex, rfl, rv, ok, h60, q⟩ := h
  refine ⟨_, pss_one (ps_if (pt_not (pt_val (pe_fn DIsLog GIsLog hr (pa_cons (pv 0) pa_nil))))
      (pss_one (ps_dead _))
      pss_nil), ?_⟩
  obtain ⟨n1, _, _⟩ := log_nice ok.ok
  refine ⟨_, rfl, v, logD es, ex, rfl, rv, n1, fun H' k => ⟨_, rfl, ?_⟩⟩
  have e : logD' (logD es) = true := by
    show logD' (.tuple (es.map Ent.data)) = true
    rw [log_data ok.ok, decide_eq_true h60, decide_eq_true ok.nd]
    rfl
  rw [e]
  exact iteF (q H' k)
end
end NV
/-! EnumT -/
set_option Elab.async false
set_option linter.all false
set_option maxRecDepth 100000
set_option maxHeartbeats 600000
/-! enumerate of a tuple -/
namespace NV
open PySem PySem.Spec PyProof.Rows
open L2
def ItnM (K : PySem.W.Frag) (a : Addr) : It where
  go := fun i H => ∃ xs, SqT K H a xs ∧ i < xs.length
  yld := fun i H v H' => ∃ T x, H T = none ∧ v = .ref T ∧ H' = upd H T (.tup [.int (i : Nat), x]) ∧ ∀ xs, SqT K H a xs → xs[i]? = some x
  stop := fun i H => ∃ xs, SqT K H a xs ∧ xs.length = i
/-- the two cells of such an enumerate after i turns -/
structure EM (a e it : Addr) (i : Nat) (h : Heap) : Prop where
  num : ∃ old, IsEnum h e it (i : Nat) old
  src : h.IsTupleIter it a i
  ne : e ≠ it
section
variable {a e it : Addr} {i : Nat} {h h' : Heap}
theorem EM.cell (m : EM a e it i h) {c : Addr} (hc : c ∈ [e, it]) : ∃ o, h.get? c = some o ∧ ∀ v, o.data ≠ .cell v := by
  obtain ⟨old, hn⟩ := m.num
  obtain ⟨f, hf, _, df⟩ := m.src
  simp only [List.mem_cons, List.not_mem_nil, or_false] at hc
  rcases hc with z | z <;> subst z
  · exact ⟨_, hn, nofun⟩
  · exact ⟨f, hf, fun v y => nomatch df.symm.trans y⟩
theorem EM.frame (m : EM a e it i h) (k : ∀ c ∈ [e, it], ∀ o, h.get? c = some o → h'.get? c = some o) : EM a e it i h' where
  num := m.num.imp fun old hn => k e (by simp) _ hn
  src := m.src.at (k it (by simp))
  ne := m.ne
theorem EM.apart (m : EM a e it i h) {u : Array Value} (ht : h.IsTuple a u) : a ≠ it ∧ e ∉ [it, a] := by
  obtain ⟨old, hn⟩ := m.num
  obtain ⟨f, hf, _, df⟩ := m.src
  obtain ⟨t, h1, _, _, d1⟩ := ht
  refine ⟨?_, fun hm => ?_⟩
  · rintro rfl
    obtain rfl : f = t := Option.some.inj (hf.symm.trans h1)
    exact nomatch df.symm.trans d1
  · simp only [List.mem_cons, List.not_mem_nil, or_false] at hm
    rcases hm with z | z
    · exact m.ne z
    · subst z
      have := Option.some.inj (hn.symm.trans h1)
      rw [← this] at d1
      cases d1
end
section
variable {P : Program} {w : World} {K : PySem.W.Frag} {elts : List Expr} {kk : Nat} {tpos : Pos} {a e it : Addr}
theorem turn_enumT : Turn P w K (.Tuple elts kk tpos) (ItnM K a) [e, it] e (EM a e it) := by
  constructor
  · exact List.mem_cons_self
  · exact fun i h m c hc => m.cell hc
  · exact fun i h h' m k => m.frame k
  · rintro X rfl rfl rfl calm i pins s σ H E I free m ⟨xs, tup, l1⟩
    obtain ⟨us, ru, t1, _⟩ := I.tuple tup
    obtain ⟨x, hx⟩ : ∃ x, xs[i]? = some x := ⟨_, List.getElem?_eq_getElem l1⟩
    obtain ⟨u, hu, rxu⟩ := ru.get hx
    obtain ⟨n1, n2⟩ := m.apart t1
    obtain ⟨old, hn⟩ := m.num
    have still : X.A.in1.handled = none := I.ok.hd calm
    refine wpAny_pyNext_enum_itemD (.tuple still it a n1 us.toArray) hn ⟨m.src, t1⟩ ?_ m.ne n2 fun u' h1 tk eu out st pair _ hk => ?_
    · have := ru.length
      simp
      omega
    have eu : us.toArray[i]? = some u' := eu
    rw [List.getElem?_toArray, hu] at eu
    obtain rfl := Option.some.inj eu
    refine ⟨_, rfl, wpAny_letOwnedTupleGo_enum (s := { s with heap := h1, toks := tk + 1 }) out fun h2 e2 same => ?_⟩
    have lt : ∀ c ∈ [e, it], c < s.heap.objs.size := fun c hc => by
      obtain ⟨o, ho, _⟩ := m.cell hc
      exact Heap.lt_size ho
    have enew : s.heap.objs.size ≠ e := (Nat.ne_of_lt (lt e List.mem_cons_self)).symm
    have rest : ∀ c o, c ∉ [e, it] → s.heap.get? c = some o → h2.get? c = some o := fun c o hc y => by
      simp only [List.mem_cons, List.not_mem_nil, or_false, not_or] at hc
      exact (same.2 c hc.1).trans (hk c o hc.1 hc.2 y)
    have I2 := I.turnedNew (t' := tk + 1) (h' := h2) (ob := .tup [.int (i : Nat), x]) rest free (Nat.le_refl s.heap.objs.size)
      ⟨by show 2 ≤ sizeLine; decide, [.int (i : Nat) tk, u], .cons ⟨tk, rfl⟩ (.cons rxu .nil), ⟨_, (same.2 _ enew).trans pair, rfl, _, rfl⟩⟩
    refine ⟨.ref s.heap.objs.size, _, I2, rfl, ⟨s.heap.objs.size, x, I.hok.fresh (Nat.le_refl _), rfl, rfl, fun xs' hx' => ?_⟩, ?_, fun c hc => ?_⟩
    · rw [I.tuple_inj hx' tup]
      exact hx
    · exact { num := ⟨u, e2⟩
              src := st.1.at fun o y => (same.2 it m.ne.symm).trans y
              ne := m.ne }
    · rw [upd_ne (Nat.ne_of_lt (lt c hc))]
      exact (free c hc).1
  · rintro X rfl rfl rfl calm i pins s σ H E I free m ⟨xs, tup, l1⟩
    obtain ⟨us, ru, t1, _⟩ := I.tuple tup
    obtain ⟨n1, n2⟩ := m.apart t1
    obtain ⟨old, hn⟩ := m.num
    have still : X.A.in1.handled = none := I.ok.hd calm
    have e1 : i = us.toArray.size := by
      have := ru.length
      simp
      omega
    refine wpAny_pyNext_enum_endD (.tuple still it a n1 us.toArray) hn (by rw [← e1]; exact ⟨m.src, t1⟩) fun h1 ext => ⟨rfl, I.turnedL (t' := s.toks) (fun c o hc y => ext c o (fun z => hc (by rw [z]; simp)) y) free⟩
  · exact fun A i s Q E m q => by
      obtain ⟨old, hn⟩ := m.num
      exact wpAny_pyIter_enum hn q
end
/-- enumerate(v), v of any kind that begins -/
theorem meets_enum1 {v : Value} {o : Obj} {W : Heap → Prop} (B : Begins v o W) :
    Meets (Builtin.«enumerate.__new__» ⟨[.type "enumerate", v], []⟩) (fun _ R s => W s.heap ∧ R (.ok (.ret (.ref (s.heap.push o).objs.size))) { s with heap := (s.heap.push o).push { cls := .type "enumerate", data := .fields #[.none, .bool false, .ref s.heap.objs.size, rawInt 0, .none, .none] } }) :=
  .of_wp fun prog w A R s h => by
    obtain ⟨hp, g, d, tk, os⟩ := s
    obtain ⟨h1, h⟩ := h
    have hsub := sub_enumerate
    have begin_ : ∀ {A' : Around} {E : Value → Shared → Prop} {Q : Value → Shared → Prop}, Q (.ref hp.objs.size) ⟨hp.push o, g, d, tk, os⟩ → wpAny (model prog w) A' (pyIter v) Q E ⟨hp, g, d, tk, os⟩ := fun q => B.iter prog w _ _ _ _ h1 q
    wp_walk using begin_
    refine wpAny_stack_any fun st => wpAny_pure ?_
    split
    · rename_i c _ _ _ _ _
      cases (c == Value.type "enumerate") <;> (wp_walk using begin_; exact ⟨_, rfl, h⟩)
    · wp_walk using begin_
      exact ⟨_, rfl, h⟩
section
variable {prog : Program} {w : World} {A : Around} {E : Value → Shared → Prop} {s : Shared}
theorem enum_begins1 {v : Value} {o : Obj} {W : Heap → Prop} {Q : Value → Shared → Prop} (B : Begins v o W) (h1 : W s.heap)
    (h : ∀ h', IsEnum h' (s.heap.objs.size + 1) s.heap.objs.size 0 .none → h'.get? s.heap.objs.size = some o → (∀ b y, s.heap.get? b = some y → h'.get? b = some y) → Q (.ref (s.heap.objs.size + 1)) { s with heap := h' }) :
    wpAny (model prog w) A (call (.type "enumerate") [v]) Q E s := by
  refine callType_new F.called_enumerate (by decide) (F.typeCall_enumerate_1 _) (F.newCall_enumerate_1 _) (fun obj => F.args_object_init_2 obj _) F.entry_enumerate_new (meets_enum1 B) ⟨h1, ?_⟩
  have size : (s.heap.push o).objs.size = s.heap.objs.size + 1 := Heap.size_push ..
  have made := Heap.get?_push_size (s.heap.push o) (o := { cls := .type "enumerate", data := .fields #[.none, .bool false, .ref s.heap.objs.size, rawInt 0, .none, .none] }) rfl
  rw [size] at made
  show _ ∧ _
  rw [size]
  exact ⟨⟨_, made, rfl⟩, h _ made (Heap.get?_push_of_some _ (Heap.get?_push_size _ B.free)) fun b y e => Heap.get?_push_of_some _ (Heap.get?_push_of_some _ e)⟩
end
def iEnumT (K : PySem.W.Frag) (ta : TA) : TI := fun σ H R => ta σ H fun vs H1 => ∃ a xs, vs = [.ref a] ∧ SqT K H1 a xs ∧ R (ItnM K a) H1
theorem pi_enumT {X : Cx} {e : Expr} {ta : TA} {p pos tpos : Pos} {elts : List Expr} {kk : Nat} (K : PySem.W.Frag) (hg : Gl X "enumerate") (hm : X.mg "enumerate" = none) (ha : PA X [e] ta) (hK : X.K = K := by rfl)
    (h1 : starEach [e] X.env = (false, eval e X.env) :: starEach [] X.env := by rfl) (h2 : (backTo pos (starEach [] X.env)).any (·.1) = false := by rfl) :
    PI X (.Tuple elts kk tpos) (.Call (.Name "enumerate" p) [e] [] pos) (iEnumT K ta) := by
  subst hK
  constructor
  intro pins s σ H R I h
  refine Call_ (ld_blt I hg hm boot_enumerate (callWith_type1 (thn (ha.run pos pins s σ H _ I h) ?_) h1 h2))
  rintro us s1 ⟨_, H1, J, rel, a, xs, rfl, tup, q⟩
  cases rel with
  | cons ra rest =>
    cases rest
    cases ra
    obtain ⟨us, _, t1, _⟩ := J.tuple tup
    refine enum_begins1 (begins_tuple a us.toArray) t1 fun h' hn f hk => wpAny_pyIter_enum hn ?_
    refine ⟨s1.heap.objs.size + 1, _, _, _, H1, rfl, J.kept (t' := s1.toks) hk, turn_enumT, ⟨⟨_, hn⟩, ⟨_, f, rfl, rfl⟩, fun z => Nat.succ_ne_self _ z⟩, fun c hc => ?_, q⟩
    have le : (s1.heap.objs.size : Nat) ≤ (c : Nat) := by
      simp only [List.mem_cons, List.not_mem_nil, or_false] at hc
      rcases hc with z | z <;> rw [z]
      · exact Nat.le_add_right _ _
      · exact Nat.le_refl _
    exact J.fpOk le (J.hok.fresh le)
theorem for_enumT {K : PySem.W.Frag} {a : Addr} {xs : List V} {g : TG} {tb : TS} {D : Ends} {σ : L2.St} {H : Hp} (Pv : Nat → L2.St → Hp → Prop) (h0 : Pv 0 σ H) (hq : ∀ i σ H, Pv i σ H → SqT K H a xs)
    (turn : ∀ (i : Nat) (x : V) (T : Addr) (σ : L2.St) (H : Hp), xs[i]? = some x → Pv i σ H → H T = none → g (.ref T) σ (upd H T (.tup [.int (i : Nat), x])) fun σ2 H2 => tb { D with nx := Pv (i + 1), ct := Pv (i + 1), bk := D.nx } σ2 H2) (last : ∀ σ H, Pv xs.length σ H → D.nx σ H) :
    ∃ W : Nat → Nat → L2.St → Hp → Prop, (∃ m, W 0 m σ H) ∧ ∀ i m σ H, W i m σ H → ((ItnM K a).stop i H ∧ D.nx σ H) ∨
      ((ItnM K a).go i H ∧ ∃ N : L2.St → Hp → Prop, (∀ σ' H', N σ' H' → ∃ m', m' < m ∧ W (i + 1) m' σ' H') ∧ ∀ v H', (ItnM K a).yld i H v H' → g v σ H' fun σ2 H2 => tb { D with nx := N, ct := N, bk := D.nx } σ2 H2) := by
  refine ⟨fun i m σ H => m + i = xs.length ∧ Pv i σ H, ⟨xs.length, rfl, h0⟩, ?_⟩
  rintro i m σ H ⟨hm, hP⟩
  have tup := hq i σ H hP
  cases m with
  | zero =>
    obtain rfl : i = xs.length := by omega
    exact .inl ⟨⟨xs, tup, rfl⟩, last σ H hP⟩
  | succ m =>
    refine .inr ⟨⟨xs, tup, by omega⟩, Pv (i + 1), fun σ' H' hP' => ⟨m, by omega, by omega, hP'⟩, ?_⟩
    rintro v H' ⟨T, x, hT, rfl, rfl, at_⟩
    exact turn i x T σ H (at_ xs tup) hP hT
theorem pi_enumE {X : Cx} (K : PySem.W.Frag) {e : Expr} {ta : TA} {p pos tpos : Pos} {elts : List Expr} {kk : Nat} (hg : Gl X "enumerate") (hm : X.mg "enumerate" = none) (ha : PA X [e] ta) (hK : X.K = K := by rfl) (hs : starEach [e] X.env = [(false, eval e X.env)] := by rfl) :
    PI X (.Tuple elts kk tpos) (.Call (.Name "enumerate" p) [e] [] pos) (iEnum K ta) := by
  rw [← hK]
  exact pi_enum hg hm ha hs
end NV
/-! V1 -/
set_option Elab.async false
set_option linter.all false
set_option maxRecDepth 100000
set_option maxHeartbeats 1000000
/-! the package's cells_written, is_write_at, is_read_at, check_reads, position_in, asked of what is there -/
namespace NV
open PySem PySem.Spec PyProof.Rows L2
open C8 (pss_cut pe_gc)
abbrev sCellsWritten : Stmt := topS 27
theorem scCellsWritten : FnScope ["entry"] ["entry"] (defScope sCellsWritten) := ⟨rfl, rfl, rfl, by decide +kernel, rfl, by decide +kernel, by decide +kernel⟩
abbrev sIsWriteAt : Stmt := topS 28
theorem scIsWriteAt : FnScope ["log", "position"] ["log", "position"] (defScope sIsWriteAt) := ⟨rfl, rfl, rfl, by decide +kernel, rfl, by decide +kernel, by decide +kernel⟩
abbrev sIsReadAt : Stmt := topS 29
theorem scIsReadAt : FnScope ["log", "position", "cell"] ["log", "position", "cell"] (defScope sIsReadAt) := ⟨rfl, rfl, rfl, by decide +kernel, rfl, by decide +kernel, by decide +kernel⟩
abbrev sCheckReads : Stmt := topS 31
theorem scCheckReads : FnScope ["log", "position", "cell"] ["log", "position", "cell"] (defScope sCheckReads) := ⟨rfl, rfl, rfl, by decide +kernel, rfl, by decide +kernel, by decide +kernel⟩
abbrev sPositionIn : Stmt := topS 32
theorem scPositionIn : FnScope ["log", "entry_id", "position", "entry"] ["log", "entry_id"] (defScope sPositionIn) := ⟨rfl, rfl, rfl, by decide +kernel, rfl, by decide +kernel, by decide +kernel⟩
theorem kind_w (b : Bool) : decide (V.str (if b = true then ("write" : Str) else "query") = V.str "write") = b := by
  cases b with
  | true => exact decide_eq_true rfl
  | false => exact decide_eq_false (by intro h; exact absurd (V.str.inj h) (by decide))
theorem in_names {K : PySem.W.Frag} {H : Hp} {a : Addr} {zs : List Str} {c : Str} {Q : VK} (ha : H a = some (.tup (zs.map V.str))) (q : Q (.bl (decide (c ∈ zs))) H) : rIn K false (.str c) (.ref a) H Q := by
  refine ⟨a, _, rfl, .inr (.inl (.inl ha)), rfl, ?_, ?_⟩
  · rw [List.all_map]
    exact List.all_eq_true.mpr fun x _ => rfl
  · have e : inV (.str c) (zs.map V.str) = decide (c ∈ zs) := by
      unfold inV
      rw [List.any_map, Bool.eq_iff_iff, List.any_eq_true, decide_eq_true_iff]
      constructor
      · rintro ⟨y, hy, h⟩
        have h : (y == c) = true := h
        rw [← eq_of_beq h]
        exact hy
      · intro h
        exact ⟨c, h, by show (c == c) = true; exact beq_self_eq_true c⟩
    rw [if_neg Bool.false_ne_true, e]
    exact q
/-- the write at k, where there is one -/
def writeAt (es : List Ent) (k : Nat) : Bool := match es[k]? with
  | some e => e.isW
  | none => false
def spCellsW : Sp := fun vs H Q _ => ∃ (v : V) (e : Ent) (ex : List Addr), vs = [v] ∧ Rp ex H e.data v ∧ ∀ p H', Kp [] H H' → H' p = some (.tup (e.ws.map V.str)) → Q (.ref p) H'
def spWriteAt : Sp := fun vs H Q _ => ∃ (v : V) (es : List Ent) (ex : List Addr) (k : Nat), vs = [v, .int (k : Nat)] ∧ Rp ex H (logD es) v ∧ Q (.bl (writeAt es k)) H
/-- a cell is read there: at the end any cell -/
def spReadAt : Sp := fun vs H Q _ => ∃ (v : V) (es : List Ent) (ex : List Addr) (k : Nat) (c : Str), vs = [v, .int (k : Nat), .str c] ∧ Rp ex H (logD es) v ∧ k ≤ es.length ∧ cellB c = true ∧ (∀ e, es[k]? = some e → c ∈ e.rs) ∧ Q (.bl true) H
def spChecks : Sp := fun vs H Q _ => ∃ (v : V) (es : List Ent) (ex : List Addr) (k : Nat) (c : Str), vs = [v, .int (k : Nat), .str c] ∧ Rp ex H (logD es) v ∧ k ≤ es.length ∧ cellB c = true ∧ (∀ e, es[k]? = some e → c ∈ e.rs) ∧ Q .non H
/-- the position of this name, the end for none -/
def PosOf (es : List Ent) (z : Str) (k : Nat) : Prop := (z = "" ∧ k = es.length) ∨ (z ≠ "" ∧ (∃ e, es[k]? = some e ∧ e.id = z) ∧ ∀ j e, j < k → es[j]? = some e → e.id ≠ z)
def spPos : Sp := fun vs H Q _ => ∃ (v : V) (es : List Ent) (ex : List Addr) (z : Str) (k : Nat), vs = [v, .str z] ∧ Rp ex H (logD es) v ∧ PosOf es z k ∧ ∀ H', Kp [] H H' → Q (.int (k : Nat)) H'
section
variable {P : Program} {w : World} {K : PySem.W.Frag} {mg : Str → Option Value} {base : Heap}
theorem ok_cellsw (DCellsWritten : Fn K mg "cells_written" sCellsWritten ["entry"]) (g0 : ∃ u, mg "KIND" = some u ∧ L2.RelV (.int 0) u) (g3 : ∃ u, mg "WRITES" = some u ∧ L2.RelV (.int 3) u) : FnOk P w K mg base CX0 1 DCellsWritten.f DCellsWritten.fd ["entry"] spCellsW := by
  refine DCellsWritten.F.ok scCellsWritten (fun vs H Q E h => ?_) (fun cdv A outer s H vs Q E hr h => ?_)
  · obtain ⟨v, e, ex, rfl, _⟩ := h
    rfl
  obtain ⟨v, e, ex, rfl, rv, q⟩ := h
  refine ⟨_, pss_one (ps_ret (pe_ifExp (pt_cmpR op_eq (pe_ix (ixtE K) (pv 0) (pe_gc (v := .int 0) rfl g0) (fun _ _ => rfl)) pe_str (nomark _)) (pe_ix (ixtE K) (pv 0) (pe_gc (v := .int 3) rfl g3) (fun _ _ => rfl)) (pe_tup pa_nil))), ?_⟩
  obtain ⟨d0, ed0, hd0⟩ := ent_kind e
  refine ⟨_, rfl, c_of (ent_ix rv ed0 hd0 rfl fun vk rk => ?_)⟩
  obtain rfl : vk = .str (if e.isW then "write" else "query") := rk
  refine ⟨rfl, _, rfl, ?_⟩
  rw [kind_w]
  cases hw : e.isW with
  | true =>
    obtain ⟨d3, ed3, hd3, _⟩ := ent_writes hw
    refine iteT ⟨_, rfl, c_of (ent_ix rv ed3 hd3 rfl fun u ru => ?_)⟩
    obtain ⟨a, cs, rfl, na, ha, hcs⟩ := ru
    obtain rfl := strs_of hcs
    exact q a H Kp.refl ha
  | false =>
    refine iteF ⟨Nat.zero_le _, fun p np => q p _ (Kp.laid np) ?_⟩
    rw [upd_same]
    cases e with
    | wr _ _ _ _ => cases hw
    | qu _ _ => rfl
theorem ok_writeat (DIsWriteAt : Fn K mg "is_write_at" sIsWriteAt ["log", "position"]) (b_len : mg "len" = none) (g0 : ∃ u, mg "KIND" = some u ∧ L2.RelV (.int 0) u) : FnOk P w K mg base CX0 1 DIsWriteAt.f DIsWriteAt.fd ["log", "position"] spWriteAt := by
  refine DIsWriteAt.F.ok scIsWriteAt (fun vs H Q E h => ?_) (fun cdv A outer s H vs Q E hr h => ?_)
  · obtain ⟨v, es, ex, k, rfl, _⟩ := h
    rfl
  obtain ⟨v, es, ex, k, rfl, rv, q⟩ := h
  refine ⟨_, pss_one (ps_ret (pe_and (pe_cmpR op_lt (pv 1) (pe_callB (lenE K) (by rfl) b_len (by decide +kernel) (pa_cons (pv 0) pa_nil)) (nomark _)) (pe_one (pe_cmpR op_eq (pe_ix (ixtE K) (pe_ix (ixtE K) (pv 0) (pv 1) (fun _ _ => rfl)) (pe_gc (v := .int 0) rfl g0) (fun _ _ => rfl)) pe_str (nomark _))))), ?_⟩
  obtain ⟨a, xs, rfl, na, ha, hx⟩ := rv
  have hl : es.length = xs.length := by
    have := hx.length
    rwa [List.length_map] at this
  refine ⟨_, rfl, _, rfl, a, xs, rfl, .inr (.inl (.inl ha)), _, _, rfl, rfl, _, rfl, ?_⟩
  rcases Nat.lt_or_ge k es.length with hk | hk
  · rw [decide_eq_true (show ((k : Nat) : Int) < (xs.length : Nat) by omega)]
    obtain ⟨e, he⟩ : ∃ e, es[k]? = some e := ⟨_, List.getElem?_eq_getElem hk⟩
    obtain ⟨d0, ed0, hd0⟩ := ent_kind e
    refine iteT ⟨_, rfl, _, rfl, ixD (j := k) rfl ha hx (by rw [List.getElem?_map, he]; rfl) fun ve re => c_of (ent_ix re ed0 hd0 rfl fun vk rk => ?_)⟩
    obtain rfl : vk = .str (if e.isW then "write" else "query") := rk
    refine ⟨rfl, ?_⟩
    rw [kind_w]
    have : writeAt es k = e.isW := by unfold writeAt; rw [he]
    rw [← this]
    exact q
  · rw [decide_eq_false (show ¬ ((k : Nat) : Int) < (xs.length : Nat) by omega)]
    have : writeAt es k = false := by unfold writeAt; rw [List.getElem?_eq_none hk]
    rw [this] at q
    exact iteF q
theorem ok_readat (DIsReadAt : Fn K mg "is_read_at" sIsReadAt ["log", "position", "cell"]) (DIsCell : Fn K mg "is_cell" sIsCell ["value"]) (b_len : mg "len" = none) (g2 : ∃ u, mg "READS" = some u ∧ L2.RelV (.int 2) u)
    (GIsCell : FnOk P w K mg base CX0 2 DIsCell.f DIsCell.fd ["value"] (spIs (wordD 4 false))) : FnOk P w K mg base CX0 3 DIsReadAt.f DIsReadAt.fd ["log", "position", "cell"] spReadAt := by
  refine DIsReadAt.F.ok scIsReadAt (fun vs H Q E h => ?_) (fun cdv A outer s H vs Q E hr h => ?_)
  · obtain ⟨v, es, ex, k, c, rfl, _⟩ := h
    rfl
  obtain ⟨v, es, ex, k, c, rfl, rv, hk, hc, hrs, q⟩ := h
  refine ⟨_, pss_one (ps_ret (pe_ifExp (pt_cmpR op_eq (pv 1) (pe_callB (lenE K) (by rfl) b_len (by decide +kernel) (pa_cons (pv 0) pa_nil)) (nomark _)) (pe_fn DIsCell GIsCell hr (pa_cons (pv 2) pa_nil))
      (pe_cmpR (inE K) (pv 2) (pe_ix (ixtE K) (pe_ix (ixtE K) (pv 0) (pv 1) (fun _ _ => rfl)) (pe_gc (v := .int 2) rfl g2) (fun _ _ => rfl)) (by rfl)))), ?_⟩
  obtain ⟨a, xs, rfl, na, ha, hx⟩ := rv
  have hl : es.length = xs.length := by
    have := hx.length
    rwa [List.length_map] at this
  refine ⟨_, rfl, _, rfl, a, xs, rfl, .inr (.inl (.inl ha)), rfl, _, rfl, ?_⟩
  by_cases he : k = es.length
  · rw [decide_eq_true (show V.int (k : Nat) = V.int (xs.length : Nat) by rw [he, hl])]
    obtain ⟨h1, h2⟩ := word_len hc
    refine iteT ⟨_, rfl, .str c, .str c, ex, rfl, rfl, ?_, ?_⟩
    · simp only [niceD, Bool.and_eq_true, decide_eq_true_eq]
      exact ⟨by omega, h2⟩
    · show Q (.bl (cellB c)) H
      rw [hc]
      exact q
  · rw [decide_eq_false (show ¬ V.int (k : Nat) = V.int (xs.length : Nat) from fun h => by have := V.int.inj h; omega)]
    obtain ⟨e, hek⟩ : ∃ e, es[k]? = some e := ⟨_, List.getElem?_eq_getElem (by omega)⟩
    obtain ⟨d2, ed2, _, hd2⟩ := ent_reads e
    refine iteF ⟨_, rfl, _, rfl, _, rfl, ixD (j := k) rfl ha hx (by rw [List.getElem?_map, hek]; rfl) fun ve re => c_of (ent_ix re ed2 hd2 rfl fun u ru => ?_)⟩
    obtain ⟨ra, cs, rfl, nra, hra, hcs⟩ := ru
    obtain rfl := strs_of hcs
    refine in_names hra ?_
    rw [decide_eq_true (hrs e hek)]
    exact q
theorem ok_checkreads (DCheckReads : Fn K mg "check_reads" sCheckReads ["log", "position", "cell"]) (DIsReadAt : Fn K mg "is_read_at" sIsReadAt ["log", "position", "cell"]) (GIsReadAt : FnOk P w K mg base CX0 3 DIsReadAt.f DIsReadAt.fd ["log", "position", "cell"] spReadAt) :
    FnOk P w K mg base CX0 4 DCheckReads.f DCheckReads.fd ["log", "position", "cell"] spChecks := by
  refine DCheckReads.F.ok scCheckReads (fun vs H Q E h => ?_) (fun cdv A outer s H vs Q E hr h => ?_)
  · obtain ⟨v, es, ex, k, c, rfl, _⟩ := h
    rfl
  obtain ⟨v, es, ex, k, c, rfl, rv, hk, hc, hrs, q⟩ := h
  refine ⟨_, pss_one (ps_if (pt_not (pt_val (pe_fn DIsReadAt GIsReadAt hr (pa_cons (pv 0) (pa_cons (pv 1) (pa_cons (pv 2) pa_nil))))))
      (pss_one (ps_dead _))
      pss_nil), ?_⟩
  exact ⟨_, rfl, _, rfl, _, rfl, v, es, ex, k, c, rfl, rv, hk, hc, hrs, _, rfl, iteF q⟩
theorem ok_pos (DPositionIn : Fn K mg "position_in" sPositionIn ["log", "entry_id"]) (b_len : mg "len" = none) (b_enumerate : mg "enumerate" = none) (gE : ∃ u, mg "END" = some u ∧ L2.RelV (.str "") u) (g1 : ∃ u, mg "ID" = some u ∧ L2.RelV (.int 1) u) :
    FnOk P w K mg base CX0 1 DPositionIn.f DPositionIn.fd ["log", "entry_id"] spPos := by
  refine DPositionIn.F.ok scPositionIn (fun vs H Q E h => ?_) (fun cdv A outer s H vs Q E hr h => ?_)
  · obtain ⟨v, es, ex, z, k, rfl, _⟩ := h
    rfl
  obtain ⟨v, es, ex, z, k, rfl, rv, pos, q⟩ := h
  refine ⟨_, pss_cons (ps_if (pt_cmpR op_eq (pv 1) (pe_gc (v := .str "") rfl gE) (nomark _))
      (pss_one (ps_ret (pe_callB (lenE K) (by rfl) b_len (by decide +kernel) (pa_cons (pv 0) pa_nil))))
      pss_nil)
      (pss_cons (ps_for PassesOwn.never rfl (pi_enumT K (by rfl) b_enumerate (pa_cons (pv 0) pa_nil)) (pg_tupE K (by rfl) (pgs_cons (pg_name (i := 2) scPositionIn.nd rfl (.inl rfl)) (pgs_cons (pg_name (i := 3) scPositionIn.nd rfl (.inl rfl)) pgs_nil)))
      (pss_one (ps_if (pt_cmpR op_eq (pe_ix (ixtE K) (pv 3) (pe_gc (v := .int 1) rfl g1) (fun _ _ => rfl)) (pv 1) (nomark _))
      (pss_one (ps_ret (pv 2)))
      pss_nil)))
      (pss_one (ps_dead _))), ?_⟩
  obtain ⟨a, xs, rfl, na, ha, hx⟩ := rv
  have hl : es.length = xs.length := by
    have := hx.length
    rwa [List.length_map] at this
  refine ⟨_, rfl, rfl, _, rfl, ?_⟩
  rcases pos with ⟨rfl, rfl⟩ | ⟨hz, ⟨e, he, hid⟩, first⟩
  · refine iteT ⟨_, rfl, a, xs, rfl, .inr (.inl (.inl ha)), ?_⟩
    rw [← hl]
    exact q H Kp.refl
  · rw [decide_eq_false (show ¬ V.str z = V.str "" from fun h => hz (V.str.inj h))]
    have hk := (List.getElem?_eq_some_iff.mp he).1
    refine iteF ⟨_, rfl, a, xs, rfl, .inl (.inl ha), for_enumT (K := K) (a := a) (xs := xs) (fun i σ H' => ∃ c2 c3 : Option V, σ = [some (.ref a), some (.str z), c2, c3] ∧ Kp [] H H' ∧ i ≤ k) ⟨none, none, rfl, Kp.refl, Nat.zero_le _⟩ ?_ ?_ ?_⟩
    · rintro i σ H' ⟨_, _, _, k', _⟩
      exact .inl (.inl (k' _ _ (by simp) ha))
    · rintro i x T σ H1 hxi ⟨c2, c3, rfl, k1, hik⟩ nT
      have kT : Kp [] H1 (upd H1 T (.tup [.int (i : Nat), x])) := Kp.laid nT
      have hT : (upd H1 T (.tup [.int (i : Nat), x])) T = some (.tup [.int (i : Nat), x]) := upd_same
      obtain ⟨e', he'⟩ : ∃ e', es[i]? = some e' := ⟨_, List.getElem?_eq_getElem (by omega)⟩
      obtain ⟨x', hx', rx⟩ := RpAll.at hx (show (es.map Ent.data)[i]? = some e'.data by rw [List.getElem?_map, he']; rfl)
      rw [hxi] at hx'
      obtain rfl := Option.some.inj hx'
      have k2 := k1.trans kT
      have rx2 := Rp.keep (k2.mono (ex' := ex) (by simp)) _ _ rx
      obtain ⟨d1, ed1, hd1, _⟩ := ent_reads e'
      refine ⟨T, _, rfl, .inl (.inl hT), rfl, _, _, rfl, _, _, rfl, rfl, ?_⟩
      refine ⟨_, rfl, c_of (ent_ix rx2 ed1 hd1 rfl fun vi ri => ?_)⟩
      obtain rfl : vi = .str e'.id := ri
      refine ⟨_, rfl, rfl, _, rfl, ?_⟩
      by_cases hi : i = k
      · subst hi
        rw [he] at he'
        obtain rfl := Option.some.inj he'
        rw [decide_eq_true (show V.str e.id = V.str z by rw [hid])]
        exact iteT ⟨_, rfl, q _ k2⟩
      · rw [decide_eq_false (show ¬ V.str e'.id = V.str z from fun h => first i e' (by omega) he' (V.str.inj h))]
        exact iteF ⟨_, _, rfl, k2, by omega⟩
    · rintro σ H1 ⟨c2, c3, rfl, k1, hik⟩
      omega
end
end NV
/-! V2 -/
set_option Elab.async false
set_option linter.all false
set_option maxRecDepth 100000
set_option maxHeartbeats 1000000
/-! the package's without_retracted, source_before -/
namespace NV
open PySem PySem.Spec PyProof.Rows L2
open C8 (pss_cut pe_gc)
abbrev sWithoutRetracted : Stmt := topS 37
theorem scWithoutRetracted : FnScope ["log", "retracted", "gone", "entry_id", "entry"] ["log", "retracted"] (defScope sWithoutRetracted) := ⟨rfl, rfl, rfl, by decide +kernel, rfl, by decide +kernel, by decide +kernel⟩
/-! ### a list or a tuple is gone through -/
def Jn (K : PySem.W.Frag) (b : Bool) (a : Addr) : It := if b then Itl K a else Itt K a
def iSeq (K : PySem.W.Frag) (tl : TE) : TI := fun σ H R => tl σ H fun x H1 => ∃ (a : Addr) (xs : List V) (b : Bool), x = .ref a ∧ (if b then SqL K H1 a xs else SqT K H1 a xs) ∧ R (Jn K b a) H1
theorem pi_seq {X : Cx} {tg l : Expr} {tl : TE} (K : PySem.W.Frag) (hl : PE X l tl) (hK : X.K = K := by rfl) : PI X tg l (iSeq K tl) := by
  subst hK
  constructor
  intro pins s σ H R I h
  refine thn (hl.run pins s σ H _ I h) ?_
  rintro v s1 ⟨x, H1, J, rel, a, xs, b, rfl, at_, q⟩
  obtain rfl : v = .ref a := rel
  have new : FpOk X pins H1 s1.heap.objs.size := J.fpOk (Nat.le_refl _) (J.hok.fresh (Nat.le_refl _))
  have one : ∀ b ∈ [s1.heap.objs.size], FpOk X pins H1 b := fun b hb => by
    rw [List.mem_singleton.mp hb]
    exact new
  cases b with
  | true =>
    obtain ⟨us, _, t, _⟩ := J.list at_
    exact wpAny_pyIter_list t.isList ⟨_, _, _, _, H1, rfl, J.kept (t' := s1.toks) (fun b o e => Heap.get?_push_of_some _ e), turn_list a _, ⟨_, Heap.get?_push_size _ rfl, rfl, rfl⟩, one, q⟩
  | false =>
    obtain ⟨us, _, t, _⟩ := J.tuple at_
    exact wpAny_pyIter_tuple (items := us.toArray) t ⟨_, _, _, _, H1, rfl, J.kept (t' := s1.toks) (fun b o e => Heap.get?_push_of_some _ e), turn_tuple a _, ⟨_, Heap.get?_push_size _ rfl, rfl, rfl⟩, one, q⟩
/-- a dict comprehension by what holds at each turn -/
theorem dc_inv {J : It} {g : TG} {tt : TT} {tk tv : TE} {vs : List Nat} {σ : L2.St} {C : Addr} {H1 : Hp} {Qd : Hp → Prop} (n : Nat) (Pv : Nat → Hp → Prop) (h0 : Pv 0 (upd H1 C (.dK []))) (hd : ∀ H, Pv n H → J.stop n H ∧ Qd H) (hgo : ∀ i H, i < n → Pv i H → J.go i H)
    (hs : ∀ i H x H', i < n → Pv i H → J.yld i H x H' → g x (wipe σ vs) H' fun σ2 H2 => wipe σ2 vs = wipe σ vs ∧ tt σ2 H2 fun b H3 => if b = true then tk σ2 H3 fun y H4 => tv σ2 H4 fun z H5 => ∃ kvs k, y = kV k ∧ H5 C = some (.dK kvs) ∧ kvs.length < sizeLine ∧ Pv (i + 1) (upd H5 C (.dK (putK kvs k z))) else Pv (i + 1) H3) :
    ∃ W : Nat → Nat → Hp → Prop, (∃ m, W 0 m (upd H1 C (.dK []))) ∧ ∀ i m H, W i m H →
      (J.stop i H ∧ Qd H) ∨ (J.go i H ∧ ∃ Nx : Hp → Prop, (∀ H', Nx H' → ∃ m', m' < m ∧ W (i + 1) m' H') ∧ ∀ x H', J.yld i H x H' → g x (wipe σ vs) H' fun σ2 H2 => wipe σ2 vs = wipe σ vs ∧ tt σ2 H2 fun b H3 =>
        if b = true then tk σ2 H3 fun y H4 => tv σ2 H4 fun z H5 => ∃ kvs k, y = kV k ∧ H5 C = some (.dK kvs) ∧ kvs.length < sizeLine ∧ Nx (upd H5 C (.dK (putK kvs k z))) else Nx H3) := by
  refine ⟨fun i m H => m + i = n ∧ Pv i H, ⟨n, rfl, h0⟩, ?_⟩
  rintro i m H ⟨hm, p⟩
  cases m with
  | zero =>
    obtain rfl : i = n := by omega
    exact .inl (hd H p)
  | succ m => exact .inr ⟨hgo i H (by omega) p, Pv (i + 1), fun H' q => ⟨m, by omega, by omega, q⟩, fun x H' y => hs i H x H' (by omega) p y⟩
/-! ### the log without some writes -/
def liveB (es : List Ent) (gone : List Str) : List Ent := es.filter fun e => decide (e.id ∉ gone)
theorem live_range (es : List Ent) (gone : List Str) (d : Ent) : liveB es gone = ((List.range es.length).filter fun j => decide ((es.getD j d).id ∉ gone)).map fun j => es.getD j d := by
  have e : (List.range es.length).map (fun j => es.getD j d) = es := by
    apply List.ext_getElem
    · simp
    · intro j h1 h2
      simp [List.getD_eq_getElem?_getD, List.getElem?_eq_getElem h2]
  conv => lhs; rw [← e]
  unfold liveB
  rw [List.filter_map]
  rfl
theorem rp_sel {ex : List Addr} {H : Hp} {es : List Ent} {xs : List V} (hx : RpAll ex H (es.map Ent.data) xs) (d : Ent) : ∀ l : List Nat, (∀ j ∈ l, j < es.length) → RpAll ex H ((l.map fun j => es.getD j d).map Ent.data) (l.map fun j => xs.getD j .non)
  | [], _ => rfl
  | j :: l, h => by
    have hj := h j List.mem_cons_self
    obtain ⟨v, hv, rv⟩ := RpAll.at hx (show (es.map Ent.data)[j]? = some (es.getD j d).data by rw [List.getElem?_map, List.getD_eq_getElem?_getD, List.getElem?_eq_getElem hj]; rfl)
    refine ⟨v, _, ?_, rv, rp_sel hx d l fun i hi => h i (List.mem_cons_of_mem _ hi)⟩
    rw [List.map_cons, List.getD_eq_getElem?_getD, hv]
    rfl
/-- names at a, in a list (b) or in a tuple -/
def Names (K : PySem.W.Frag) (b : Bool) (H : Hp) (a : Addr) (zs : List Str) : Prop := if b then H a = some (.lst (zs.map V.str)) else SqT K H a (zs.map V.str)
theorem Names.keep0 {K : PySem.W.Frag} {b : Bool} {H H' : Hp} {a : Addr} {zs : List Str} (h : Names K b H a zs) (k : Kp [] H H') : Names K b H' a zs := by
  cases b with
  | true => exact k _ _ (by simp) h
  | false => exact Kp.seqT k (by simp) h
/-- a is no new address, and what is new does not matter -/
theorem Names.seq {K : PySem.W.Frag} {b : Bool} {H : Hp} {a : Addr} {zs : List Str} (h : Names K b H a zs) : if b then SqL K H a (zs.map V.str) else SqT K H a (zs.map V.str) := by
  cases b with
  | true => exact .inl (.inl h)
  | false => exact h
section
variable {K : PySem.W.Frag} {b : Bool} {H : Hp} {a : Addr} {zs : List Str}
theorem Names.go {i : Nat} (h : Names K b H a zs) (hi : i < zs.length) : (Jn K b a).go i H := by
  have hx : (zs.map V.str)[i]? = some (V.str zs[i]) := by rw [List.getElem?_map, List.getElem?_eq_getElem hi]; rfl
  cases b with
  | true => exact ⟨_, _, .inl (.inl h), hx⟩
  | false => exact ⟨_, _, h, hx⟩
theorem Names.stop (h : Names K b H a zs) : (Jn K b a).stop zs.length H := by
  cases b with
  | true => exact ⟨_, .inl (.inl h), by rw [List.length_map]; exact Nat.le_refl _⟩
  | false => exact ⟨_, h, by rw [List.length_map]; exact Nat.le_refl _⟩
theorem Names.yld {i : Nat} {x : V} {H' : Hp} (h : Names K b H a zs) (y : (Jn K b a).yld i H x H') : H' = H ∧ ∃ z, zs[i]? = some z ∧ x = .str z := by
  have fin : (zs.map V.str)[i]? = some x → ∃ z, zs[i]? = some z ∧ x = .str z := fun e => by
    rw [List.getElem?_map] at e
    cases hz : zs[i]? with
    | none => rw [hz] at e; cases e
    | some z => rw [hz] at e; exact ⟨z, rfl, (Option.some.inj e).symm⟩
  cases b with
  | true =>
    obtain ⟨e, g⟩ := y
    exact ⟨e, fin (g _ (.inl (.inl h)))⟩
  | false =>
    obtain ⟨e, g⟩ := y
    exact ⟨e, fin (g _ h)⟩
end
/-- a dict in which exactly these names stand, True -/
structure GoneAt (d : Addr) (zs : List Str) (n : Nat) (H : Hp) : Prop where
  at_ : ∃ kvs : List (Key × V), H d = some (.dK kvs) ∧ kvs.length ≤ n ∧ ∀ z : Str, (valV kvs (Sum.inr z : Key)).isSome = decide (z ∈ zs)
theorem GoneAt.put {d : Addr} {zs : List Str} {n : Nat} {H : Hp} {z : Str} {v : V} {kvs : List (Key × V)} (e : H d = some (.dK kvs)) (l : kvs.length ≤ n) (g : ∀ z : Str, (valV kvs (Sum.inr z : Key)).isSome = decide (z ∈ zs)) : GoneAt d (zs ++ [z]) (n + 1) (upd H d (.dK (putK kvs (Sum.inr z : Key) v))) := by
  refine ⟨_, upd_same, Nat.le_trans (length_putK _ _ _) (by omega), fun y => ?_⟩
  rw [valV_put]
  by_cases h : (Sum.inr y : Key) = Sum.inr z
  · rw [if_pos h]
    have : y = z := Sum.inr.inj h
    rw [decide_eq_true (by rw [this]; simp)]
    rfl
  · rw [if_neg h, g y]
    have : y ≠ z := fun q => h (by rw [q])
    rw [decide_eq_decide]
    simp [this]
def spWithout (K : PySem.W.Frag) : Sp := fun vs H Q _ => ∃ (v : V) (g : Addr) (es : List Ent) (gone : List Str) (b : Bool) (ex : List Addr), vs = [v, .ref g] ∧ Rp ex H (logD es) v ∧ Names K b H g gone ∧ es.length ≤ 900 ∧ gone.length ≤ 1000 ∧ Live ex H ∧ ∀ p H', Kp [] H H' → Rp ex H' (logD (liveB es gone)) (.ref p) → Q (.ref p) H'
section
variable {P : Program} {w : World} {K : PySem.W.Frag} {mg : Str → Option Value} {base : Heap}
theorem ok_without (DWithoutRetracted : Fn K mg "without_retracted" sWithoutRetracted ["log", "retracted"]) (b_tuple : mg "tuple" = none) (g1 : ∃ u, mg "ID" = some u ∧ L2.RelV (.int 1) u) :
    FnOk P w K mg base CX0 1 DWithoutRetracted.f DWithoutRetracted.fd ["log", "retracted"] (spWithout K) := by
  refine DWithoutRetracted.F.ok scWithoutRetracted (fun vs H Q E h => ?_) (fun cdv A outer s H vs Q E hr h => ?_)
  · obtain ⟨v, g, es, gone, b, ex, rfl, _⟩ := h
    rfl
  obtain ⟨v, g, es, gone, b, ex, rfl, rv, ng, h100, hg, lv, q⟩ := h
  have hu := hu_of hr
  have line : (10000 : Nat) < sizeLine := by decide
  refine ⟨_, pss_cons (ps_set (i := 2) scWithoutRetracted.nd rfl (.inr rfl) (pe_dc (own := [("entry_id", 3)]) (g := gName 3) (tt := tYes) (by rfl) scWithoutRetracted.nd (pi_seq K (pv 1)) (blkOk_by (N := ["log", "retracted", "gone", "entry_id", "entry"]) (sc := defScope sWithoutRetracted) (by decide +kernel))
        (fun _ _ _ _ _ => pg_name (i := 3) scWithoutRetracted.nd rfl (.inl rfl)) (fun _ _ _ _ _ => pts_nil) (fun _ _ _ _ _ => pv 3) (fun _ _ _ _ _ => pe_bl)))
      (pss_one (ps_ret (pe_callTy call_tuple_of (by rfl) b_tuple (by decide +kernel) (pa_cons (pe_lc (own := [("entry", 4)]) (g := gName 4) (by rfl) scWithoutRetracted.nd (piTupE K (pv 0)) (blkOk_by (N := ["log", "retracted", "gone", "entry_id", "entry"]) (sc := defScope sWithoutRetracted) (by decide +kernel)) (fun _ _ _ _ _ => (pg_name (i := 4) scWithoutRetracted.nd rfl (.inl rfl))) (fun _ _ _ _ _ => (pts_one (pt_cmp (pc_dnotin hu (pe_ix (ixtE K) (pv 4) (pe_gc (v := .int 1) rfl g1) (fun _ _ => rfl)) (pv 2))))) (fun _ _ _ _ _ => (pv 4))) pa_nil)))), ?_⟩
  obtain ⟨a, xs, rfl, na, ha, hx⟩ := rv
  have hl : es.length = xs.length := by
    have := hx.length
    rwa [List.length_map] at this
  refine ⟨_, rfl, g, gone.map V.str, b, rfl, ng.seq, fun D nD => ?_⟩
  have kD : Kp [] H (upd H D (.dK [])) := Kp.laid nD
  have naD : a ≠ D := fun z => by rw [z, nD] at ha; cases ha
  have ngk : ∀ {H' : Hp}, Kp [D] (upd H D (.dK [])) H' → Names K b H' g gone := fun k => ng.keep0 (Kp.drop ((kD.mono (by simp)).trans k) nD)
  refine dc_inv (J := Jn K b g) gone.length (fun j H' => Kp [D] (upd H D (.dK [])) H' ∧ GoneAt D (gone.take j) j H') ⟨Kp.refl, [], upd_same, Nat.zero_le _, fun z => by simp [valV]⟩ ?_ (fun i H' hi ⟨k, _⟩ => (ngk k).go hi) ?_
  case refine_2 =>
    rintro i Hz x H1 hi ⟨k, kvs, e, l, gd⟩ y
    obtain ⟨rfl, z, hz, rfl⟩ := (ngk k).yld y
    refine ⟨rfl, yes_on ?_⟩
    refine ⟨_, rfl, kvs, Sum.inr z, rfl, e, by omega, k.trans (Kp.put (by simp)), ?_⟩
    have := GoneAt.put (z := z) (v := .bl true) e l gd
    rw [List.take_add_one, hz]
    exact this
  case refine_1 =>
    rintro H1 ⟨k, gd⟩
    refine ⟨(ngk k).stop, ?_⟩
    rw [List.take_length] at gd
    obtain ⟨kvs, e, l, gd⟩ := gd
    have k1 : Kp [] H H1 := Kp.drop ((kD.mono (by simp)).trans k) nD
    have ha1 := k1 _ _ (by simp) ha
    have hx1 := RpAll.keep (k1.mono (ex' := ex) (by simp)) _ _ hx
    let d0 : Ent := .qu "" []
    refine ⟨_, rfl, a, rfl, ⟨xs, .inl (.inl ha1)⟩, fun C nC => ?_⟩
    have nDC : D ≠ C := fun z => by rw [z, nC] at e; cases e
    refine lc_growT (fun j => decide ((es.getD j d0).id ∉ gone)) (fun j => xs.getD j .non) (.inl (.inl ha1)) nC (by omega) (fun j x H8 Q8 hxj k8 q8 => ?_) (fun j x H8 Q8 hxj hpj k8 q8 => ?_) fun H8 k8 e8 => ?_
    · have hj : j < es.length := by
        have := (List.getElem?_eq_some_iff.mp hxj).1
        omega
      have hej : es[j]? = some (es.getD j d0) := by rw [List.getD_eq_getElem?_getD, List.getElem?_eq_getElem hj]; rfl
      generalize es.getD j d0 = ee at hej q8
      obtain ⟨x', hx', rx⟩ := RpAll.at hx1 (show (es.map Ent.data)[j]? = some ee.data by rw [List.getElem?_map, hej]; rfl)
      rw [hxj] at hx'
      obtain rfl := Option.some.inj hx'
      have r8 := Rp.keep (k8.mono (ex' := C :: ex) (by simp)) _ _ (Rp.apart nC _ _ rx)
      obtain ⟨d1, ed1, hd1, _⟩ := ent_reads ee
      refine ⟨_, rfl, c_of (ent_ix r8 ed1 hd1 rfl fun vi ri => ?_)⟩
      obtain rfl : vi = .str ee.id := ri
      refine ⟨_, rfl, D, _, rfl, DGet.k (k := Sum.inr ee.id) (k8 _ _ (by simpa using nDC) e), ?_⟩
      have : (!(valV kvs (Sum.inr ee.id : Key)).isSome) = decide (ee.id ∉ gone) := by
        rw [gd]
        by_cases h : ee.id ∈ gone <;> simp [h]
      rw [this]
      exact ⟨_, rfl, q8 _ Kp.refl⟩
    · refine ⟨x, rfl, ?_⟩
      have : xs.getD j .non = x := by rw [List.getD_eq_getElem?_getD, hxj]; rfl
      rw [← this]
      exact q8 _ Kp.refl
    · have k18 : Kp [] H1 H8 := Kp.drop k8 nC
      have hx8 : RpAll ex H8 (es.map Ent.data) xs := RpAll.keep (k18.mono (by simp)) _ _ hx1
      have hp := rp_sel hx8 d0 ((List.range es.length).filter fun j => decide ((es.getD j d0).id ∉ gone)) fun j hj => List.mem_range.mp (List.mem_filter.mp hj).1
      rw [← live_range] at hp
      rw [← hl] at e8
      refine ⟨C, _, rfl, .inl ⟨.inl (.inl e8), fun l nl => ?_⟩⟩
      exact q l _ ((k1.trans k18).trans (Kp.laid nl)) (rp_new ((lv.kp0 (k1.trans k18)).fresh nl) nl hp)
end
end NV
/-! T2 -/
set_option Elab.async false
set_option linter.all false
set_option maxRecDepth 100000
set_option maxHeartbeats 600000
/-! what a target depends on: the log without some writes, the positions met -/
namespace NV
open PySem PySem.Spec PyProof.Rows L2
def backL (l : List Ent) (rows : List Row) : List Row := l.foldr stepT rows
theorem back_take {es : List Ent} {k : Nat} {row : Row} (hk : k ≤ es.length) : ∀ n, n ≤ k → backN es k row n = backL ((es.take k).drop (k - n)) [row]
  | 0, _ => by
    rw [Nat.sub_zero, List.drop_of_length_le (by rw [List.length_take]; omega)]
    rfl
  | n + 1, hn => by
    have ih := back_take (row := row) hk n (by omega)
    have hj : k - (n + 1) < (es.take k).length := by rw [List.length_take]; omega
    rw [List.drop_eq_getElem_cons hj, show k - (n + 1) + 1 = k - n by omega]
    unfold backN backL
    rw [List.foldr_cons, List.getElem_take, List.getElem?_eq_getElem (show k - (n + 1) < es.length by omega)]
    dsimp only
    rw [ih]
    rfl
theorem back_all {es : List Ent} {k : Nat} {row : Row} (hk : k ≤ es.length) : backN es k row k = backL (es.take k) [row] := by
  have := back_take (row := row) hk k (Nat.le_refl _)
  rwa [Nat.sub_self, List.drop_zero] at this
/-- a retracted write, as if it read and wrote nothing -/
def bl (gone : List Str) (e : Ent) : Ent := if e.id ∈ gone then .wr e.id [] [] none else e
theorem bl_id (gone : List Str) (e : Ent) : (bl gone e).id = e.id := by
  unfold bl
  split <;> rfl
theorem step_none {e : Ent} (h : e.ws = []) (rows : List Row) : stepT e rows = rows := by
  have no : rows.any (openIn e) = false := by
    rw [List.any_eq_false]
    intro r _
    unfold openIn
    rw [h]
    simp
  unfold stepT
  rw [no, if_neg Bool.false_ne_true]
theorem back_live (gone : List Str) : ∀ (l : List Ent) (rows : List Row), backL (liveB l gone) rows = backL (l.map (bl gone)) rows
  | [], _ => rfl
  | e :: l, rows => by
    have ih := back_live gone l rows
    unfold liveB at ih ⊢
    rw [List.filter_cons, List.map_cons]
    by_cases h : e.id ∈ gone
    · rw [if_neg (by simp [h])]
      have hb : bl gone e = .wr e.id [] [] none := if_pos h
      show _ = stepT (bl gone e) (backL (l.map (bl gone)) rows)
      rw [hb, step_none rfl, ih]
    · rw [if_pos (by simp [h])]
      have hb : bl gone e = e := if_neg h
      show stepT e (backL _ rows) = stepT (bl gone e) (backL (l.map (bl gone)) rows)
      rw [hb, ih]
/-! ### the positions met, the last first -/
def metL (es : List Ent) (q : Ask) : Nat → List Nat
  | 0 => []
  | n + 1 => if hits es (q.2.2 - (n + 1)) (asks es q n) then metL es q n ++ [q.2.2 - (n + 1)] else metL es q n
theorem asks_succ (es : List Ent) (q : Ask) (n : Nat) : asks es q (n + 1) = if hits es (q.2.2 - (n + 1)) (asks es q n) then asks es q n ++ asksAt es (q.2.2 - (n + 1)) else asks es q n := rfl
theorem metL_succ (es : List Ent) (q : Ask) (n : Nat) : metL es q (n + 1) = if hits es (q.2.2 - (n + 1)) (asks es q n) then metL es q n ++ [q.2.2 - (n + 1)] else metL es q n := rfl
theorem asks_met (es : List Ent) (q : Ask) : ∀ n, asks es q n = q :: (metL es q n).flatMap (asksAt es)
  | 0 => rfl
  | n + 1 => by
    have ih := asks_met es q n
    rw [asks_succ, metL_succ]
    by_cases h : hits es (q.2.2 - (n + 1)) (asks es q n) = true
    · rw [if_pos h, if_pos h, List.flatMap_append, ih]
      simp
    · rw [if_neg h, if_neg h, ih]
theorem asks_mono {es : List Ent} {q : Ask} : ∀ {n m : Nat}, n ≤ m → ∀ r ∈ asks es q n, r ∈ asks es q m
  | n, 0, h, r, hr => by
    obtain rfl : n = 0 := by omega
    exact hr
  | n, m + 1, h, r, hr => by
    by_cases e : n = m + 1
    · rw [← e]; exact hr
    · have := asks_mono (show n ≤ m by omega) r hr
      unfold asks
      split
      · exact List.mem_append_left _ this
      · exact this
theorem met_range {es : List Ent} {q : Ask} : ∀ {n : Nat}, n ≤ q.2.2 → ∀ p ∈ metL es q n, q.2.2 - n ≤ p ∧ p < q.2.2
  | 0, _, p, h => by cases h
  | n + 1, hn, p, h => by
    unfold metL at h
    split at h
    · rcases List.mem_append.mp h with z | z
      · have := met_range (n := n) (by omega) p z
        omega
      · rw [List.mem_singleton.mp z]
        omega
    · have := met_range (n := n) (by omega) p h
      omega
/-- strictly falling -/
theorem met_falls {es : List Ent} {q : Ask} : ∀ {n : Nat}, n ≤ q.2.2 → (metL es q n).Pairwise (· > ·)
  | 0, _ => List.Pairwise.nil
  | n + 1, hn => by
    have ih := met_falls (es := es) (q := q) (n := n) (by omega)
    unfold metL
    split
    · refine List.pairwise_append.mpr ⟨ih, List.pairwise_singleton _ _, fun a ha b hb => ?_⟩
      have := met_range (n := n) (by omega) a ha
      rw [List.mem_singleton.mp hb]
      omega
    · exact ih
/-- a position is met just if some row that is asked has its source there -/
theorem mem_met {es : List Ent} {q : Ask} : ∀ {n : Nat}, n ≤ q.2.2 → ∀ p, p ∈ metL es q n ↔ q.2.2 - n ≤ p ∧ ∃ r ∈ asks es q n, lastIx es r.2.2 r.2.1 = some p
  | 0, _, p => by
    constructor
    · intro h; cases h
    · rintro ⟨h1, r, hr, h2⟩
      rw [List.mem_singleton.mp hr] at h2
      have := (lastIx_lt h2).1
      omega
  | n + 1, hn, p => by
    have ih := mem_met (es := es) (q := q) (n := n) (by omega)
    have key : hits es (q.2.2 - (n + 1)) (asks es q n) = true ↔ ∃ r ∈ asks es q n, lastIx es r.2.2 r.2.1 = some (q.2.2 - (n + 1)) := by
      unfold hits
      rw [List.any_eq_true]
      constructor
      · rintro ⟨r, hr, h⟩; exact ⟨r, hr, of_decide_eq_true h⟩
      · rintro ⟨r, hr, h⟩; exact ⟨r, hr, decide_eq_true h⟩
    rw [metL_succ, asks_succ]
    by_cases h : hits es (q.2.2 - (n + 1)) (asks es q n) = true
    · rw [if_pos h, if_pos h]
      constructor
      · intro hp
        rcases List.mem_append.mp hp with z | z
        · obtain ⟨h1, r, hr, h2⟩ := (ih p).1 z
          exact ⟨by omega, r, List.mem_append_left _ hr, h2⟩
        · rw [List.mem_singleton.mp z]
          obtain ⟨r, hr, h2⟩ := key.1 h
          exact ⟨Nat.le_refl _, r, List.mem_append_left _ hr, h2⟩
      · rintro ⟨h1, r, hr, h2⟩
        rcases List.mem_append.mp hr with z | z
        · by_cases e : p = q.2.2 - (n + 1)
          · exact List.mem_append_right _ (by rw [e]; simp)
          · exact List.mem_append_left _ ((ih p).2 ⟨by omega, r, z, h2⟩)
        · have hpos : r.2.2 = q.2.2 - (n + 1) := by
            unfold asksAt at z
            split at z
            · obtain ⟨c, _, rfl⟩ := List.mem_map.mp z
              rfl
            · cases z
          have := (lastIx_lt h2).1
          omega
    · rw [if_neg h, if_neg h]
      constructor
      · intro hp
        obtain ⟨h1, r, hr, h2⟩ := (ih p).1 hp
        exact ⟨by omega, r, hr, h2⟩
      · rintro ⟨h1, r, hr, h2⟩
        by_cases e : p = q.2.2 - (n + 1)
        · exact absurd (key.2 ⟨r, hr, by rw [h2, e]⟩) h
        · exact (ih p).2 ⟨by omega, r, hr, h2⟩
/-- the sources reached from the target -/
inductive Reach (es : List Ent) (q : Ask) : Nat → Prop
  | base {p : Nat} (h : lastIx es q.2.2 q.2.1 = some p) : Reach es q p
  | step {p j : Nat} {e : Ent} {c : Str} (r : Reach es q j) (he : es[j]? = some e) (hc : c ∈ e.rs) (h : lastIx es j c = some p) : Reach es q p
theorem reach_lt {es : List Ent} {q : Ask} {p : Nat} (r : Reach es q p) : p < q.2.2 := by
  induction r with
  | base h => exact (lastIx_lt h).1
  | step _ _ _ h ih =>
    have := (lastIx_lt h).1
    omega
theorem asks_reach {es : List Ent} {q : Ask} : ∀ {n : Nat}, n ≤ q.2.2 → ∀ r ∈ asks es q n, r = q ∨ ∃ j e c, Reach es q j ∧ es[j]? = some e ∧ c ∈ e.rs ∧ r = (e.id, c, j)
  | 0, _, r, hr => .inl (List.mem_singleton.mp hr)
  | n + 1, hn, r, hr => by
    have ih := asks_reach (es := es) (q := q) (n := n) (by omega)
    unfold asks at hr
    split at hr
    · rename_i hh
      rcases List.mem_append.mp hr with z | z
      · exact ih r z
      · unfold hits at hh
        obtain ⟨r', hr', h2⟩ := List.any_eq_true.mp hh
        have h2 := of_decide_eq_true h2
        have R : Reach es q (q.2.2 - (n + 1)) := by
          rcases ih r' hr' with rfl | ⟨j, e, c, R, he, hc, rfl⟩
          · exact .base h2
          · exact .step R he hc h2
        unfold asksAt at z
        cases he : es[q.2.2 - (n + 1)]? with
        | none => rw [he] at z; cases z
        | some e =>
          rw [he] at z
          obtain ⟨c, hc, rfl⟩ := List.mem_map.mp z
          exact .inr ⟨_, e, c, R, he, hc, rfl⟩
    · exact ih r hr
theorem met_iff {es : List Ent} {q : Ask} (p : Nat) : p ∈ metL es q q.2.2 ↔ Reach es q p := by
  have me : p ∈ metL es q q.2.2 ↔ ∃ r ∈ asks es q q.2.2, lastIx es r.2.2 r.2.1 = some p := by
    rw [mem_met (Nat.le_refl _) p]
    exact ⟨fun h => h.2, fun h => ⟨by omega, h⟩⟩
  constructor
  · intro h
    obtain ⟨r, hr, h2⟩ := me.1 h
    rcases asks_reach (Nat.le_refl _) r hr with rfl | ⟨j, e, c, R, he, hc, rfl⟩
    · exact .base h2
    · exact .step R he hc h2
  · intro R
    induction R with
    | base h =>
      rw [mem_met (Nat.le_refl _)]
      exact ⟨by omega, q, by rw [asks_met]; exact List.mem_cons_self, h⟩
    | @step p j e c R he hc h ih =>
      have hj := ih (by rw [mem_met (Nat.le_refl _)]; exact ⟨fun z => z.2, fun z => ⟨by omega, z⟩⟩)
      rw [mem_met (Nat.le_refl _)]
      refine ⟨by omega, (e.id, c, j), ?_, h⟩
      rw [asks_met]
      refine List.mem_cons_of_mem _ (List.mem_flatMap.mpr ⟨j, hj, ?_⟩)
      unfold asksAt
      rw [he]
      exact List.mem_map.mpr ⟨c, hc, rfl⟩
/-- what the rows say -/
def rowsOf (es : List Ent) (q : Ask) : List Row := (asks es q q.2.2).map (rowA es 0)
theorem rows_back {es : List Ent} {q : Ask} (hk : q.2.2 ≤ es.length) : backL (es.take q.2.2) [(q.1, q.2.1, none)] = rowsOf es q := by
  rw [← back_all hk, back_asks hk q.2.2 (Nat.le_refl _), Nat.sub_self]
  rfl
/-- the rows in the log without the retracted writes -/
theorem rows_live {es : List Ent} {gone : List Str} {q : Ask} (hk : q.2.2 ≤ es.length) : backL (liveB (es.take q.2.2) gone) [(q.1, q.2.1, none)] = rowsOf (es.map (bl gone)) q := by
  rw [back_live, List.map_take]
  exact rows_back (by rw [List.length_map]; exact hk)
end NV
/-! T3 -/
set_option Elab.async false
set_option linter.all false
set_option maxRecDepth 100000
set_option maxHeartbeats 600000
/-! rows that wait, rows that are closed one by one -/
namespace NV
open PySem PySem.Spec PyProof.Rows L2
def keyR (r : Row) : Str × Str := (r.1, r.2.1)
/-- who waits for a cell -/
def openNs (rows : List Row) (c : Str) : List Str := (rows.filter fun r => r.2.2.isNone && decide (r.2.1 = c)).map (·.1)
theorem mem_open {rows : List Row} {c a : Str} : a ∈ openNs rows c ↔ (a, c, none) ∈ rows := by
  unfold openNs
  rw [List.mem_map]
  constructor
  · rintro ⟨⟨x, y, o⟩, hr, rfl⟩
    obtain ⟨h1, h2⟩ := List.mem_filter.mp hr
    simp only [Bool.and_eq_true, decide_eq_true_eq, Option.isNone_iff_eq_none] at h2
    obtain ⟨rfl, rfl⟩ := h2
    exact h1
  · intro h
    exact ⟨_, List.mem_filter.mpr ⟨h, by simp⟩, rfl⟩
theorem open_nil {rows : List Row} {c : Str} : openNs rows c = [] ↔ ∀ r ∈ rows, (r.2.2.isNone && decide (r.2.1 = c)) = false := by
  unfold openNs
  rw [List.map_eq_nil_iff, List.filter_eq_nil_iff]
  constructor
  · intro h r hr
    exact Bool.eq_false_iff.mpr (h r hr)
  · intro h r hr
    rw [h r hr]
    exact Bool.false_ne_true
/-- some names of a cell get their source -/
def setR (w id : Str) (names : List Str) (r : Row) : Row := if r.2.1 = w ∧ r.1 ∈ names then (r.1, r.2.1, some id) else r
def setN (w id : Str) (names : List Str) (rows : List Row) : List Row := rows.map (setR w id names)
theorem setR_yes {w id : Str} {names : List Str} {r : Row} (h1 : r.2.1 = w) (h2 : r.1 ∈ names) : setR w id names r = (r.1, r.2.1, some id) := if_pos ⟨h1, h2⟩
theorem setR_no {w id : Str} {names : List Str} {r : Row} (h : ¬ (r.2.1 = w ∧ r.1 ∈ names)) : setR w id names r = r := if_neg h
theorem setR_key (w id : Str) (names : List Str) (r : Row) : keyR (setR w id names r) = keyR r := by
  unfold setR
  split <;> rfl
/-- a row whose cell is among ws is closed -/
def closeP (ws : List Str) (id : Str) (r : Row) : Row := if r.2.2.isNone && decide (r.2.1 ∈ ws) then (r.1, r.2.1, some id) else r
def closeCs (ws : List Str) (id : Str) (rows : List Row) : List Row := rows.map (closeP ws id)
theorem closeP_yes {ws : List Str} {id : Str} {r : Row} (h1 : r.2.2 = none) (h2 : r.2.1 ∈ ws) : closeP ws id r = (r.1, r.2.1, some id) := if_pos (by rw [h1]; simp [h2])
theorem closeP_no {ws : List Str} {id : Str} {r : Row} (h : ¬ (r.2.2 = none ∧ r.2.1 ∈ ws)) : closeP ws id r = r := if_neg (fun z => h (by simpa using z))
theorem closeP_key (ws : List Str) (id : Str) (r : Row) : keyR (closeP ws id r) = keyR r := by
  unfold closeP
  split <;> rfl
theorem keys_set (w id : Str) (names : List Str) (rows : List Row) : (setN w id names rows).map keyR = rows.map keyR := by
  unfold setN
  rw [List.map_map]
  exact List.map_congr_left fun r _ => setR_key w id names r
theorem keys_close (ws : List Str) (id : Str) (rows : List Row) : (closeCs ws id rows).map keyR = rows.map keyR := by
  unfold closeCs
  rw [List.map_map]
  exact List.map_congr_left fun r _ => closeP_key ws id r
theorem set_more (w id : Str) (l : List Str) (a : Str) (rows : List Row) : setN w id [a] (setN w id l rows) = setN w id (l ++ [a]) rows := by
  unfold setN
  rw [List.map_map]
  refine List.map_congr_left fun r _ => ?_
  show setR w id [a] (setR w id l r) = setR w id (l ++ [a]) r
  by_cases h1 : r.2.1 = w
  · by_cases h2 : r.1 ∈ l
    · rw [setR_yes h1 h2, setR_yes h1 (List.mem_append_left _ h2)]
      by_cases h3 : r.1 = a
      · exact setR_yes (r := (r.1, r.2.1, some id)) h1 (by rw [h3]; simp)
      · exact setR_no fun z => h3 (List.mem_singleton.mp z.2)
    · rw [setR_no (fun z => h2 z.2)]
      by_cases h3 : r.1 = a
      · rw [setR_yes h1 (by rw [h3]; simp), setR_yes h1 (by rw [h3]; simp)]
      · rw [setR_no (fun z => h3 (List.mem_singleton.mp z.2)), setR_no (fun z => (List.mem_append.mp z.2).elim h2 fun y => h3 (List.mem_singleton.mp y))]
  · rw [setR_no (names := l) (fun z => h1 z.1), setR_no (fun z => h1 z.1), setR_no (fun z => h1 z.1)]
theorem set_nil (w id : Str) (rows : List Row) : setN w id [] rows = rows := by
  unfold setN
  conv => rhs; rw [← List.map_id rows]
  exact List.map_congr_left fun r _ => setR_no fun z => by cases z.2
theorem key_inj {rows : List Row} (nd : (rows.map keyR).Nodup) {r r' : Row} (h : r ∈ rows) (h' : r' ∈ rows) (e : keyR r = keyR r') : r = r' := by
  induction rows with
  | nil => cases h
  | cons x l ih =>
    rw [List.map_cons, List.nodup_cons] at nd
    rcases List.mem_cons.mp h with a | a
    · rcases List.mem_cons.mp h' with b | b
      · rw [a, b]
      · exact absurd (by rw [← a, e]; exact List.mem_map.mpr ⟨r', b, rfl⟩) nd.1
    · rcases List.mem_cons.mp h' with b | b
      · exact absurd (by rw [← b, ← e]; exact List.mem_map.mpr ⟨r, a, rfl⟩) nd.1
      · exact ih nd.2 a b
/-- all that wait for w: then w is closed -/
theorem set_open {rows : List Row} (nd : (rows.map keyR).Nodup) (ws : List Str) (w id : Str) (hw : w ∉ ws) : setN w id (openNs (closeCs ws id rows) w) (closeCs ws id rows) = closeCs (ws ++ [w]) id rows := by
  have hn : ∀ r ∈ rows, r.2.1 = w → (r.1 ∈ openNs (closeCs ws id rows) w ↔ r.2.2 = none) := fun r hr e => by
    rw [mem_open]
    constructor
    · intro h
      obtain ⟨r', hr', he⟩ := List.mem_map.mp h
      by_cases hc : r'.2.2 = none ∧ r'.2.1 ∈ ws
      · rw [closeP_yes hc.1 hc.2] at he
        have := congrArg (fun x => x.2.2) he
        cases this
      · rw [closeP_no hc] at he
        have : r = r' := key_inj nd hr hr' (by rw [he]; unfold keyR; rw [e])
        rw [this, he]
    · intro h
      refine List.mem_map.mpr ⟨r, hr, ?_⟩
      rw [closeP_no (fun z => hw (by rw [← e]; exact z.2))]
      obtain ⟨a, b, o⟩ := r
      cases e
      cases h
      rfl
  generalize openNs (closeCs ws id rows) w = names at hn ⊢
  unfold setN closeCs
  rw [List.map_map]
  refine List.map_congr_left fun r hr => ?_
  show setR w id names (closeP ws id r) = closeP (ws ++ [w]) id r
  by_cases hc : r.2.2 = none ∧ r.2.1 ∈ ws
  · rw [closeP_yes hc.1 hc.2, closeP_yes hc.1 (List.mem_append_left _ hc.2)]
    exact setR_no fun z => hw (by rw [← z.1]; exact hc.2)
  · rw [closeP_no hc]
    by_cases e : r.2.1 = w
    · by_cases o : r.2.2 = none
      · rw [setR_yes e ((hn r hr e).2 o), closeP_yes o (by rw [e]; simp)]
      · rw [setR_no (fun z => o ((hn r hr e).1 z.2)), closeP_no (fun z => o z.1)]
    · rw [setR_no (fun z => e z.1), closeP_no (fun z => hc ⟨z.1, (List.mem_append.mp z.2).elim (fun y => y) fun y => absurd (List.mem_singleton.mp y) e⟩)]
theorem close_nil (id : Str) (rows : List Row) : closeCs [] id rows = rows := by
  unfold closeCs
  conv => rhs; rw [← List.map_id rows]
  exact List.map_congr_left fun r _ => closeP_no fun z => by cases z.2
theorem open_close {rows : List Row} {ws : List Str} {id c : Str} : openNs (closeCs ws id rows) c = if c ∈ ws then [] else openNs rows c := by
  unfold openNs closeCs
  induction rows with
  | nil => split <;> rfl
  | cons r l ih =>
    rw [List.map_cons, List.filter_cons, List.filter_cons]
    by_cases hc : r.2.2 = none ∧ r.2.1 ∈ ws
    · rw [closeP_yes hc.1 hc.2, if_neg (by simp)]
      by_cases h : c ∈ ws
      · rw [if_pos h] at ih ⊢
        exact ih
      · rw [if_neg h] at ih ⊢
        rw [ih, if_neg (fun z => h ?_)]
        simp only [Bool.and_eq_true, decide_eq_true_eq] at z
        rw [← z.2]
        exact hc.2
    · rw [closeP_no hc]
      by_cases h : c ∈ ws
      · rw [if_pos h] at ih ⊢
        rw [if_neg (fun z => hc ?_)]
        · exact ih
        · simp only [Bool.and_eq_true, decide_eq_true_eq, Option.isNone_iff_eq_none] at z
          exact ⟨z.1, by rw [z.2]; exact h⟩
      · rw [if_neg h] at ih ⊢
        split
        · rw [List.map_cons, List.map_cons, ih]
        · exact ih
/-- the step, as the program does it -/
theorem step_close {e : Ent} {rows : List Row} {ws : List Str} (h : ∀ c, c ∈ ws ↔ c ∈ e.ws ∧ openNs rows c ≠ []) : stepT e rows = if ws = [] then rows else closeCs ws e.id rows ++ e.rs.map fun c => (e.id, c, none) := by
  have same : ∀ r ∈ rows, openIn e r = (r.2.2.isNone && decide (r.2.1 ∈ ws)) := fun r hr => by
    unfold openIn
    cases ho : r.2.2 with
    | some x => rfl
    | none =>
      have ne : openNs rows r.2.1 ≠ [] := fun z => by
        have := open_nil.1 z r hr
        rw [ho] at this
        simp at this
      rw [decide_eq_decide.mpr (show r.2.1 ∈ e.ws ↔ r.2.1 ∈ ws from ⟨fun z => (h _).2 ⟨z, ne⟩, fun z => ((h _).1 z).1⟩)]
  unfold stepT
  by_cases hw : ws = []
  · have no : rows.any (openIn e) = false := by
      rw [List.any_eq_false]
      intro r hr
      rw [same r hr, hw]
      simp
    rw [no, if_neg Bool.false_ne_true, if_pos hw]
  · have yes : rows.any (openIn e) = true := by
      obtain ⟨c, hc⟩ := List.exists_mem_of_ne_nil _ hw
      have h2 := (h c).1 hc
      rw [List.any_eq_true]
      obtain ⟨a, ha⟩ := List.exists_mem_of_ne_nil _ h2.2
      have hr := mem_open.1 ha
      exact ⟨_, hr, by rw [same _ hr]; simp [hc]⟩
    rw [yes, if_pos rfl, if_neg hw]
    congr 1
    refine List.map_congr_left fun r hr => ?_
    unfold closeR closeP
    rw [same r hr]
/-! ### what the rows are like -/
theorem back_names {row : Row} : ∀ {l : List Ent}, ∀ r ∈ backL l [row], r.1 = row.1 ∨ r.1 ∈ l.map Ent.id
  | [], r, h => .inl (by rw [List.mem_singleton.mp h])
  | e :: l, r, h => by
    have ih := back_names (row := row) (l := l)
    have up : ∀ r' ∈ backL l [row], r'.1 = row.1 ∨ r'.1 ∈ (e :: l).map Ent.id := fun r' h' => (ih r' h').imp id fun z => List.mem_cons_of_mem _ z
    have h : r ∈ stepT e (backL l [row]) := h
    unfold stepT at h
    split at h
    · rcases List.mem_append.mp h with z | z
      · obtain ⟨r', h', rfl⟩ := List.mem_map.mp z
        have : (closeR e r').1 = r'.1 := by unfold closeR; split <;> rfl
        rw [this]
        exact up r' h'
      · obtain ⟨c, _, rfl⟩ := List.mem_map.mp z
        exact .inr List.mem_cons_self
    · exact up r h
theorem keys_closeR (e : Ent) (rows : List Row) : (rows.map (closeR e)).map keyR = rows.map keyR := by
  rw [List.map_map]
  refine List.map_congr_left fun r _ => ?_
  show keyR (closeR e r) = _
  unfold closeR
  split <;> rfl
theorem nodup_mapi {α β : Type} {f : α → β} (inj : ∀ a b, f a = f b → a = b) : ∀ {l : List α}, l.Nodup → (l.map f).Nodup
  | [], _ => List.nodup_nil
  | x :: l, h => by
    rw [List.nodup_cons] at h
    rw [List.map_cons, List.nodup_cons]
    refine ⟨fun z => ?_, nodup_mapi inj h.2⟩
    obtain ⟨y, hy, e⟩ := List.mem_map.mp z
    exact h.1 (by rw [← inj _ _ e]; exact hy)
theorem back_nd {row : Row} : ∀ {l : List Ent}, (l.map Ent.id).Nodup → row.1 ∉ l.map Ent.id → (∀ e ∈ l, e.rs.Nodup) → ((backL l [row]).map keyR).Nodup
  | [], _, _, _ => by
    show ([keyR row] : List _).Nodup
    simp
  | e :: l, nd, nz, hr => by
    rw [List.map_cons, List.nodup_cons] at nd
    have nz2 : row.1 ∉ l.map Ent.id := fun z => nz (List.mem_cons_of_mem _ z)
    have ih := back_nd (row := row) nd.2 nz2 fun u hu => hr u (List.mem_cons_of_mem _ hu)
    show ((stepT e (backL l [row])).map keyR).Nodup
    unfold stepT
    split
    · rw [List.map_append, keys_closeR, List.map_map]
      refine List.nodup_append.mpr ⟨ih, nodup_mapi (fun a b h => congrArg Prod.snd h) (hr e List.mem_cons_self), fun a ha b hb => ?_⟩
      obtain ⟨c, _, rfl⟩ := List.mem_map.mp hb
      obtain ⟨r, h, rfl⟩ := List.mem_map.mp ha
      intro z
      have z1 : r.1 = e.id := congrArg Prod.fst z
      rcases back_names r h with q | q
      · exact nz (by rw [← q, z1]; exact List.mem_cons_self)
      · exact nd.1 (by rw [← z1]; exact q)
    · exact ih
theorem back_len {row : Row} : ∀ {l : List Ent}, (∀ e ∈ l, e.rs.length ≤ 3) → (backL l [row]).length ≤ 1 + 3 * l.length
  | [], _ => Nat.le_refl _
  | e :: l, h => by
    have ih := back_len (row := row) (l := l) fun u hu => h u (List.mem_cons_of_mem _ hu)
    have := h e List.mem_cons_self
    show (stepT e (backL l [row])).length ≤ _
    rw [List.length_cons]
    unfold stepT
    split
    · rw [List.length_append, List.length_map, List.length_map]
      omega
    · omega
theorem open_snoc (rows : List Row) (a r c : Str) : openNs (rows ++ [(a, r, none)]) c = if c = r then openNs rows c ++ [a] else openNs rows c := by
  unfold openNs
  rw [List.filter_append, List.map_append]
  by_cases h : c = r
  · rw [if_pos h, List.filter_cons_of_pos (by simp [h])]
    rfl
  · rw [if_neg h, List.filter_cons_of_neg (by simp; exact fun z => h z.symm)]
    simp
end NV
/-! SetDc -/
set_option Elab.async false
set_option linter.all false
set_option maxRecDepth 100000
set_option maxHeartbeats 600000
/-! name = {..: .. for ..} on one line, the name a local -/
namespace NV
open PySem PySem.Spec PyProof.Rows
open L2
section
variable {X : Cx}
theorem sw_dict {kx vx : Expr} {gs : List Comprehension} {scope : Scope} {pos py : Pos} {y : Str} {l : Nat} {env : Env} (fn : env.scope.kind = .function) (loc : env.scope.names.lookup y = some .local) (line : (py.line == pos.line) = true)
    (free : (scope.names.any fun (n, k) => n == y && (k == .local || k == .cell)) = false) : swapsWith (.DictComp kx vx gs scope pos) (some (.Name y py)) l env = pure true := by
  have k1 : env.kindOf y = some .local := loc
  have k2 : env.blockKind = .function := by
    unfold Env.blockKind
    rw [fn]
    rfl
  unfold swapsWith
  simp only [k1, k2, free, Expr.pos, line]
  rfl
theorem ps_setDc {i : Nat} {y : Str} {py : Pos} {kx vx tg iter : Expr} {ifs : List Expr} {scope : Scope} {own : List (Str × Nat)} {pos spos : Pos} {wi : TI} {g : TG} {tt : TT} {tk tv : TE} (calm : X.calm = true) (nd : X.N.Nodup) (at_ : X.N[i]? = some y) (loc : X.env.scope.names.lookup y = some .local)
    (sw : swapsWith (.DictComp kx vx [⟨tg, iter, ifs, 0⟩] scope pos) (some (.Name y py)) spos.line X.env = pure true) (hi : PI X tg iter wi) (ok : BlkOk X.N X.env.scope scope own)
    (rg : ∀ (s : Shared) (H : Hp) (C : Addr) (cl : List (Str × Addr)) (fp : List Addr), PG (X.blk s H scope (compEnvC scope cl C X.env) fp) tg g) (rt : ∀ (s : Shared) (H : Hp) (C : Addr) (cl : List (Str × Addr)) (fp : List Addr), PTs (X.blk s H scope (compEnvC scope cl C X.env) fp) ifs tt)
    (rk : ∀ (s : Shared) (H : Hp) (C : Addr) (cl : List (Str × Addr)) (fp : List Addr), PE (X.blk s H scope (compEnvC scope cl C X.env) fp) kx tk) (rv : ∀ (s : Shared) (H : Hp) (C : Addr) (cl : List (Str × Addr)) (fp : List Addr), PE (X.blk s H scope (compEnvC scope cl C X.env) fp) vx tv)
    (flat : ∀ x, foldedSetIterable iter X.env x = pure x := by intro _; rfl) : PS X (.Assign [.Name y py] (.DictComp kx vx [⟨tg, iter, ifs, 0⟩] scope pos) spos) (tAsg (tDc wi g tt tk tv (own.map (·.2))) (gName i)) := by
  constructor
  intro pins s σ H D I h
  rw [exec_Assign_Name_used _ _ _ _ sw]
  refine wpAny_bind (wpAny_standAt (wpAny_bind ?_))
  show wpAny _ X.A (do let _ ← comprehension (.DictComp kx vx [⟨tg, iter, ifs, 0⟩] scope pos) scope X.env (firstIterPos [⟨tg, iter, ifs, 0⟩] pos) newDict false (eval iter X.env) (some (assign (.Name y py) X.env))) _ _ s
  have h : tDc wi g tt tk tv (own.map (·.2)) σ H (fun x H1 => gName i x σ H1 D.nx) := h
  have made := dc_core (pos := pos) (pos' := firstIterPos [⟨tg, iter, ifs, 0⟩] pos) (use := some (assign (.Name y py) X.env)) (Qf := fun _ s' => SP X pins D .next s') calm nd I hi ok rg rt rk rv flat h ?_
  · exact wpAny_bind (thn made fun _ s' done => wpAny_pure (wpAny_pure done))
  · intro L C s' m H' J q names fp
    show wpAny _ _ (assign (.Name y py) X.env (.ref L)) _ _ _
    obtain ⟨p0, p1, p2, p3, p4, p5⟩ := fp
    refine wpAny_assign_Name (store_ok2 (v := V.ref L) J nd at_ (.inl loc) rfl ?_ (.inr loc))
    rintro s2 J2 ⟨a, same, ha⟩
    have apart : C ≠ a := ha.elim (fun z => z ▸ p1) fun z e => p4 y a z e.symm
    exact ⟨m, names.sameBut same apart, fun h3 same3 => ⟨_, H', J2.turned (t' := s2.toks) (fun b o hb e => (same3.2 b hb).trans e) p0 p1 p3 p4 p5, q⟩⟩
end
end NV
/-! V4 -/
set_option Elab.async false
set_option linter.all false
set_option maxRecDepth 100000
set_option maxHeartbeats 1000000
/-! the package's check_retracted, check_target, asked of what is right -/
namespace NV
open PySem PySem.Spec PyProof.Rows L2
open C8 (pss_cut pe_gc)
abbrev sCheckRetracted : Stmt := topS 34
theorem scCheckRetracted : FnScope ["log", "retracted", "entries", "entry_id", "entry"] ["log", "retracted"] (defScope sCheckRetracted) := ⟨rfl, rfl, rfl, by decide +kernel, rfl, by decide +kernel, by decide +kernel⟩
abbrev sCheckMayBeRetracted : Stmt := topS 35
theorem scCheckMayBeRetracted : FnScope ["entry"] ["entry"] (defScope sCheckMayBeRetracted) := ⟨rfl, rfl, rfl, by decide +kernel, rfl, by decide +kernel, by decide +kernel⟩
abbrev sCheckTarget : Stmt := topS 36
theorem scCheckTarget : FnScope ["log", "target", "position", "reader", "cell"] ["log", "target"] (defScope sCheckTarget) := ⟨rfl, rfl, rfl, by decide +kernel, rfl, by decide +kernel, by decide +kernel⟩
theorem for_names {K : PySem.W.Frag} {b : Bool} {a : Addr} {zs : List Str} {g : TG} {tb : TS} {D : Ends} {σ : L2.St} {H : Hp} (Pv : Nat → L2.St → Hp → Prop) (h0 : Pv 0 σ H) (hq : ∀ i σ H, Pv i σ H → Names K b H a zs)
    (turn : ∀ (i : Nat) (z : Str) (σ : L2.St) (H : Hp), zs[i]? = some z → Pv i σ H → g (.str z) σ H fun σ2 H2 => tb { D with nx := Pv (i + 1), ct := Pv (i + 1), bk := D.nx } σ2 H2) (last : ∀ σ H, Pv zs.length σ H → D.nx σ H) :
    ∃ W : Nat → Nat → L2.St → Hp → Prop, (∃ m, W 0 m σ H) ∧ ∀ i m σ H, W i m σ H → ((Jn K b a).stop i H ∧ D.nx σ H) ∨
      ((Jn K b a).go i H ∧ ∃ N : L2.St → Hp → Prop, (∀ σ' H', N σ' H' → ∃ m', m' < m ∧ W (i + 1) m' σ' H') ∧ ∀ v H', (Jn K b a).yld i H v H' → g v σ H' fun σ2 H2 => tb { D with nx := N, ct := N, bk := D.nx } σ2 H2) := by
  refine ⟨fun i m σ H => m + i = zs.length ∧ Pv i σ H, ⟨zs.length, rfl, h0⟩, ?_⟩
  rintro i m σ H ⟨hm, hP⟩
  have at_ := hq i σ H hP
  cases m with
  | zero =>
    obtain rfl : i = zs.length := by omega
    exact .inl ⟨at_.stop, last σ H hP⟩
  | succ m =>
    refine .inr ⟨at_.go (by omega), Pv (i + 1), fun σ' H' hP' => ⟨m, by omega, by omega, hP'⟩, ?_⟩
    intro v H' y
    obtain ⟨rfl, z, hz, rfl⟩ := at_.yld y
    exact turn i z σ _ hz hP
/-- a tuple is of the class tuple -/
theorem tyx_tup {K : PySem.W.Frag} {H : Hp} {a : Addr} {xs : List V} (h : SqT K H a xs) : TyX K H (.ref a) (.type "tuple") := by
  rcases h with (h | ⟨o, h⟩) | ⟨o, its, n, h, c, _⟩
  · exact .base (.tup h)
  · exact .fTuple h
  · exact .kTuple h c
/-- what may be retracted: names, those of the log being unsealed writes -/
def GoneOk (es : List Ent) (gone : List Str) : Prop := ∀ z ∈ gone, idB z = true ∧ ∀ e ∈ es, e.id = z → e.isW = true ∧ e.pr ≠ none
def spMayBe : Sp := fun vs H Q _ => ∃ (v : V) (e : Ent) (ex : List Addr), vs = [v] ∧ Rp ex H e.data v ∧ e.isW = true ∧ e.pr ≠ none ∧ Q .non H
def spRetr (K : PySem.W.Frag) : Sp := fun vs H Q _ => ∃ (v : V) (g : Addr) (es : List Ent) (gone : List Str) (b : Bool) (ex : List Addr), vs = [v, .ref g] ∧ Rp ex H (logD es) v ∧ Names K b H g gone ∧ es.length ≤ 100 ∧ GoneOk es gone ∧ ∀ H', Kp [] H H' → Q .non H'
/-- the entries by their names, as far as they are read -/
structure EntsAt (ex : List Addr) (d : Addr) (es : List Ent) (n : Nat) (H : Hp) : Prop where
  at_ : ∃ kvs : List (Key × V), H d = some (.dK kvs) ∧ kvs.length ≤ n ∧ ∀ (z : Str) (v : V), valV kvs (Sum.inr z : Key) = some v → ∃ e ∈ es, e.id = z ∧ Rp ex H e.data v
section
variable {P : Program} {w : World} {K : PySem.W.Frag} {mg : Str → Option Value} {base : Heap}
theorem ok_maybe (DCheckMayBeRetracted : Fn K mg "check_may_be_retracted" sCheckMayBeRetracted ["entry"]) (g0 : ∃ u, mg "KIND" = some u ∧ L2.RelV (.int 0) u) (g4 : ∃ u, mg "PRICE" = some u ∧ L2.RelV (.int 4) u) :
    FnOk P w K mg base CX0 1 DCheckMayBeRetracted.f DCheckMayBeRetracted.fd ["entry"] spMayBe := by
  refine DCheckMayBeRetracted.F.ok scCheckMayBeRetracted (fun vs H Q E h => ?_) (fun cdv A outer s H vs Q E hr h => ?_)
  · obtain ⟨v, e, ex, rfl, _⟩ := h
    rfl
  obtain ⟨v, e, ex, rfl, rv, hw, hp, q⟩ := h
  refine ⟨_, pss_cons (ps_if (pt_cmpR op_eq (pe_ix (ixtE K) (pv 0) (pe_gc (v := .int 0) rfl g0) (fun _ _ => rfl)) pe_str (nomark _))
      (pss_one (ps_dead _))
      pss_nil)
      (pss_one (ps_if (pt_cmpR op_isN (pe_ix (ixtE K) (pv 0) (pe_gc (v := .int 4) rfl g4) (fun _ _ => rfl)) pe_non (nomark _))
      (pss_one (ps_dead _))
      pss_nil)), ?_⟩
  obtain ⟨d0, ed0, hd0⟩ := ent_kind e
  obtain ⟨d4, ed4, _, hd4⟩ := ent_writes hw
  refine ⟨_, rfl, c_of (ent_ix rv ed0 hd0 rfl fun vk rk => ?_)⟩
  obtain rfl : vk = .str (if e.isW then "write" else "query") := rk
  refine ⟨rfl, _, rfl, ?_⟩
  rw [hw, show decide (V.str (if true = true then ("write" : Str) else "query") = V.str "query") = false from decide_eq_false (by intro h; exact absurd (V.str.inj h) (by decide))]
  refine iteF ⟨_, rfl, c_of (ent_ix rv ed4 hd4 rfl fun u ru => ?_)⟩
  cases hpr : e.pr with
  | none => exact absurd hpr hp
  | some i =>
    rw [hpr] at ru
    obtain rfl : u = .int i := ru
    exact ⟨rfl, _, rfl, iteF q⟩
theorem ok_retr (DCheckRetracted : Fn K mg "check_retracted" sCheckRetracted ["log", "retracted"]) (DIsId : Fn K mg "is_id" sIsId ["value"]) (DCheckMayBeRetracted : Fn K mg "check_may_be_retracted" sCheckMayBeRetracted ["entry"]) (b_isinstance : mg "isinstance" = none) (b_list : mg "list" = none) (b_tuple : mg "tuple" = none) (g1 : ∃ u, mg "ID" = some u ∧ L2.RelV (.int 1) u)
    (GIsId : FnOk P w K mg base CX0 1 DIsId.f DIsId.fd ["value"] (spIs (wordD 6 true))) (GMayBe : FnOk P w K mg base CX0 1 DCheckMayBeRetracted.f DCheckMayBeRetracted.fd ["entry"] spMayBe) :
    FnOk P w K mg base CX0 2 DCheckRetracted.f DCheckRetracted.fd ["log", "retracted"] (spRetr K) := by
  refine DCheckRetracted.F.ok scCheckRetracted (fun vs H Q E h => ?_) (fun cdv A outer s H vs Q E hr h => ?_)
  · obtain ⟨v, g, es, gone, b, ex, rfl, _⟩ := h
    rfl
  obtain ⟨v, g, es, gone, b, ex, rfl, rv, ng, h100, gok, q⟩ := h
  have hu := hu_of hr
  have line : (10000 : Nat) < sizeLine := by decide
  refine ⟨_, pss_cons (ps_if (pt_not (pt_val (pe_callB call_isiT (by rfl) b_isinstance (by decide +kernel) (pa_cons (pv 1) (pa_cons (pe_tup (pa_cons (pe_bltn (v := .ty "list") rfl b_list (by rfl) rfl) (pa_cons (pe_bltn (v := .ty "tuple") rfl b_tuple (by rfl) rfl) pa_nil))) pa_nil)))))
      (pss_one (ps_dead _))
      pss_nil)
      (pss_cons (ps_setDc (i := 2) (own := [("entry", 4)]) (g := gName 4) (tt := tYes) (by rfl) scCheckRetracted.nd rfl rfl (sw_dict rfl rfl rfl (by decide +kernel)) (piTupE K (pv 0)) (blkOk_by (N := ["log", "retracted", "entries", "entry_id", "entry"]) (sc := defScope sCheckRetracted) (by decide +kernel))
        (fun _ _ _ _ _ => pg_name (i := 4) scCheckRetracted.nd rfl (.inl rfl)) (fun _ _ _ _ _ => pts_nil) (fun _ _ _ _ _ => pe_ix (ixtE K) (pv 4) (pe_gc (v := .int 1) rfl g1) (fun _ _ => rfl)) (fun _ _ _ _ _ => pv 4))
      (pss_one (ps_for PassesOwn.never rfl (pi_seq K (pv 1)) (pg_name (i := 3) scCheckRetracted.nd rfl (.inl rfl))
      (pss_cons (ps_if (pt_not (pt_val (pe_fn DIsId GIsId hr (pa_cons (pv 3) pa_nil))))
      (pss_one (ps_dead _))
      pss_nil)
      (pss_one (ps_if (pt_cmp (pc_din hu (pv 3) (pv 2)))
      (pss_one (ps_expr (pe_fn DCheckMayBeRetracted GMayBe hr (pa_cons (pe_dget hu (pv 2) (pv 3) (fun _ _ => rfl)) pa_nil))))
      pss_nil)))))), ?_⟩
  obtain ⟨a, xs, rfl, na, ha, hx⟩ := rv
  have hl : es.length = xs.length := by
    have := hx.length
    rwa [List.length_map] at this
  refine ⟨_, rfl, by show 2 ≤ sizeLine; omega, fun tp ntp => ?_⟩
  have kt : Kp [] H (upd H tp (.tup [.ty "list", .ty "tuple"])) := Kp.laid ntp
  have ht : (upd H tp (.tup [.ty "list", .ty "tuple"])) tp = some (.tup [.ty "list", .ty "tuple"]) := upd_same
  have ng1 := ng.keep0 kt
  have ha1 := kt _ _ (by simp) ha
  have hx1 := RpAll.keep (kt.mono (ex' := ex) (by simp)) _ _ hx
  obtain ⟨H1, e1⟩ : ∃ H1, upd H tp (.tup [.ty "list", .ty "tuple"]) = H1 := ⟨_, rfl⟩
  rw [e1] at kt ht ng1 ha1 hx1 ⊢
  refine ⟨.ref g, tp, _, .type (if b then "list" else "tuple"), [.type "list", .type "tuple"], true, rfl, ht, .cons (.ty _) (.cons (.ty _) .nil), ?_, ?_, _, rfl, iteF ?_⟩
  · cases b with
    | true => exact .base (.lst ng1)
    | false => exact tyx_tup ng1
  · cases b <;> rfl
  refine ⟨_, rfl, a, rfl, ⟨xs, .inl (.inl ha1)⟩, fun D nD => ?_⟩
  have kD : Kp [] H1 (upd H1 D (.dK [])) := Kp.laid nD
  have naD : a ≠ D := fun z => by rw [z, nD] at ha1; cases ha1
  have hx2 : RpAll (D :: ex) (upd H1 D (.dK [])) (es.map Ent.data) xs := RpAll.keep (kD.mono (by simp)) _ _ (RpAll.apart nD _ _ hx1)
  refine dc_inv (J := Itt K a) xs.length (fun j H' => Kp [D] (upd H1 D (.dK [])) H' ∧ EntsAt (D :: ex) D es j H') ⟨Kp.refl, [], upd_same, Nat.zero_le _, fun z v h => by cases h⟩ ?_ (fun i H' hi ⟨k, _⟩ => ⟨xs, xs[i], .inl (.inl (k _ _ (by simpa using naD) (kD _ _ (by simp) ha1))), List.getElem?_eq_getElem hi⟩) ?_
  case refine_2 =>
    rintro i Hz x H2 hi ⟨k, kvs, e, l, gd⟩ ⟨rfl, hxx⟩
    have hxi := hxx xs (.inl (.inl (k _ _ (by simpa using naD) (kD _ _ (by simp) ha1))))
    obtain ⟨d, hd, rd⟩ := RpAll.back hx2 hxi
    obtain ⟨ee, hee, rfl⟩ : ∃ ee, es[i]? = some ee ∧ ee.data = d := by
      rw [List.getElem?_map] at hd
      cases h : es[i]? with
      | none => rw [h] at hd; cases hd
      | some ee => rw [h] at hd; exact ⟨ee, rfl, Option.some.inj hd⟩
    have r2 := Rp.keep (k.mono (ex' := D :: ex) (by simp)) _ _ rd
    obtain ⟨d1, ed1, hd1, _⟩ := ent_reads ee
    refine ⟨rfl, yes_on ?_⟩
    refine ⟨_, rfl, c_of (ent_ix r2 ed1 hd1 rfl fun vi ri => ?_)⟩
    obtain rfl : vi = .str ee.id := ri
    have kU : Kp (D :: ex) H2 (upd H2 D (.dK (putK kvs (Sum.inr ee.id) x))) := Kp.put (by simp)
    refine ⟨x, rfl, kvs, Sum.inr ee.id, rfl, e, by omega, k.trans (Kp.put (by simp)), _, upd_same, Nat.le_trans (length_putK _ _ _) (by omega), fun z v hv => ?_⟩
    rw [valV_put] at hv
    by_cases hz : (Sum.inr z : Key) = Sum.inr ee.id
    · rw [if_pos hz] at hv
      obtain rfl := Option.some.inj hv
      exact ⟨ee, List.mem_of_getElem? hee, (Sum.inr.inj hz).symm, Rp.keep kU _ _ r2⟩
    · rw [if_neg hz] at hv
      obtain ⟨e', he', hid, r'⟩ := gd z v hv
      exact ⟨e', he', hid, Rp.keep kU _ _ r'⟩
  case refine_1 =>
    rintro H2 ⟨k, kvs, e, l, gd⟩
    refine ⟨⟨xs, .inl (.inl (k _ _ (by simpa using naD) (kD _ _ (by simp) ha1))), Nat.le_refl _⟩, ?_⟩
    have k12 : Kp [] H H2 := kt.trans (Kp.drop ((kD.mono (by simp)).trans k) nD)
    have ng2 := ng.keep0 k12
    refine ⟨_, rfl, g, gone.map V.str, b, rfl, ng2.seq, for_names (K := K) (b := b) (a := g) (zs := gone) (fun i σ H' => ∃ c3 : Option V, σ = [some (.ref a), some (.ref g), some (.ref D), c3, none] ∧ Kp [] H2 H') ⟨none, rfl, Kp.refl⟩ ?_ ?_ ?_⟩
    · rintro i σ H' ⟨_, _, k'⟩
      exact ng2.keep0 k'
    · rintro i z σ H' hz ⟨c3, rfl, k'⟩
      obtain ⟨hid, hall⟩ := gok z (List.mem_of_getElem? hz)
      have hnice : niceD (.str z) = true := by
        obtain ⟨h1, h2⟩ := word_len hid
        simp only [niceD, Bool.and_eq_true, decide_eq_true_eq]
        exact ⟨by omega, h2⟩
      refine ⟨_, rfl, .str z, .str z, ex, rfl, rfl, hnice, _, rfl, ?_⟩
      rw [show wordD 6 true (.str z) = true from hid]
      refine iteF ?_
      refine ⟨_, rfl, _, rfl, D, _, rfl, DGet.k (k := Sum.inr z) (k' _ _ (by simp) e), ?_⟩
      cases hv : valV kvs (Sum.inr z : Key) with
      | none => exact ⟨_, rfl, iteF ⟨_, rfl, k'⟩⟩
      | some v =>
        obtain ⟨e', he', hid', r'⟩ := gd z v hv
        obtain ⟨hw, hp⟩ := hall e' he' hid'
        refine ⟨_, rfl, iteT ⟨_, rfl, _, rfl, D, v, rfl, by rw [← hv]; exact DGet.k (k := Sum.inr z) (k' _ _ (by simp) e), ?_⟩⟩
        exact ⟨v, e', D :: ex, rfl, Rp.keep (k'.mono (by simp)) _ _ r', hw, hp, _, rfl, k'⟩
    · rintro σ H' ⟨c3, rfl, k'⟩
      exact q H' (k12.trans k')
end
end NV
/-! V5 -/
set_option Elab.async false
set_option linter.all false
set_option maxRecDepth 100000
set_option maxHeartbeats 1000000
/-! the package's check_target, asked of a target -/
namespace NV
open PySem PySem.Spec PyProof.Rows L2
open C8 (pss_cut pe_gc)
/-- the target (z, c) of the log, at k -/
structure TargetOk (es : List Ent) (z c : Str) (k : Nat) : Prop where
  pos : PosOf es z k
  query : writeAt es k = false
  cell : cellB c = true
  reads : ∀ e, es[k]? = some e → c ∈ e.rs
theorem PosOf.le {es : List Ent} {z : Str} {k : Nat} (h : PosOf es z k) : k ≤ es.length := by
  rcases h with ⟨_, rfl⟩ | ⟨_, ⟨e, he, _⟩, _⟩
  · exact Nat.le_refl _
  · exact Nat.le_of_lt (List.getElem?_eq_some_iff.mp he).1
def spTarget : Sp := fun vs H Q _ => ∃ (v : V) (t : Addr) (es : List Ent) (ex : List Addr) (z c : Str) (k : Nat), vs = [v, .ref t] ∧ Rp ex H (logD es) v ∧ H t = some (.tup [.str z, .str c]) ∧ TargetOk es z c k ∧ ∀ H', Kp [] H H' → Q .non H'
section
variable {P : Program} {w : World} {K : PySem.W.Frag} {mg : Str → Option Value} {base : Heap}
theorem ok_target (DCheckTarget : Fn K mg "check_target" sCheckTarget ["log", "target"]) (DPositionIn : Fn K mg "position_in" sPositionIn ["log", "entry_id"]) (DIsWriteAt : Fn K mg "is_write_at" sIsWriteAt ["log", "position"]) (DCheckReads : Fn K mg "check_reads" sCheckReads ["log", "position", "cell"])
    (b_isinstance : mg "isinstance" = none) (b_tuple : mg "tuple" = none) (b_len : mg "len" = none)
    (GPositionIn : FnOk P w K mg base CX0 1 DPositionIn.f DPositionIn.fd ["log", "entry_id"] spPos) (GIsWriteAt : FnOk P w K mg base CX0 1 DIsWriteAt.f DIsWriteAt.fd ["log", "position"] spWriteAt) (GCheckReads : FnOk P w K mg base CX0 4 DCheckReads.f DCheckReads.fd ["log", "position", "cell"] spChecks) :
    FnOk P w K mg base CX0 5 DCheckTarget.f DCheckTarget.fd ["log", "target"] spTarget := by
  refine DCheckTarget.F.ok scCheckTarget (fun vs H Q E h => ?_) (fun cdv A outer s H vs Q E hr h => ?_)
  · obtain ⟨v, t, es, ex, z, c, k, rfl, _⟩ := h
    rfl
  obtain ⟨v, t, es, ex, z, c, k, rfl, rv, ht, ok, q⟩ := h
  refine ⟨_, pss_cons (ps_if (PW.pt (pw_or (pt_not (pt_val (pe_callB call_isi (by rfl) b_isinstance (by decide +kernel) (pa_cons (pv 1) (pa_cons (pe_bltn (v := .ty "tuple") rfl b_tuple (by rfl) rfl) pa_nil))))) (pw_or1 (pt_cmpR op_ne (pe_callB (lenE K) (by rfl) b_len (by decide +kernel) (pa_cons (pv 1) pa_nil)) pe_int (nomark _)))))
      (pss_one (ps_dead _))
      pss_nil)
      (pss_cons (ps_asg (pv 1) (pg_tupE K (by rfl) (pgs_cons (pg_name (i := 3) scCheckTarget.nd rfl (.inl rfl)) (pgs_cons (pg_name (i := 4) scCheckTarget.nd rfl (.inl rfl)) pgs_nil))))
      (pss_cons (ps_set (i := 2) scCheckTarget.nd rfl (.inl rfl) (pe_fn DPositionIn GPositionIn hr (pa_cons (pv 0) (pa_cons (pv 3) pa_nil))))
      (pss_cons (ps_if (pt_val (pe_fn DIsWriteAt GIsWriteAt hr (pa_cons (pv 0) (pa_cons (pv 2) pa_nil))))
      (pss_one (ps_dead _))
      pss_nil)
      (pss_one (ps_expr (pe_fn DCheckReads GCheckReads hr (pa_cons (pv 0) (pa_cons (pv 2) (pa_cons (pv 4) pa_nil))))))))), ?_⟩
  refine ⟨_, rfl, .ref t, .ty "tuple", .type "tuple", .type "tuple", true, rfl, .ty _, .base (.tup ht), rfl, _, rfl, iteF ?_⟩
  refine ⟨_, rfl, t, _, rfl, .inr (.inl (.inl ht)), rfl, _, rfl, ?_⟩
  rw [show (!decide (V.int (([V.str z, V.str c] : List V).length : Nat) = V.int 2)) = false from rfl]
  refine iteF ⟨_, rfl, t, _, rfl, .inl (.inl ht), rfl, _, _, rfl, _, _, rfl, rfl, ?_⟩
  refine ⟨_, rfl, _, rfl, v, es, ex, z, k, rfl, rv, ok.pos, fun H1 k1 => ?_⟩
  have rv1 := Rp.keep (k1.mono (ex' := ex) (by simp)) _ _ rv
  refine ⟨_, rfl, _, rfl, v, es, ex, k, rfl, rv1, _, rfl, ?_⟩
  rw [ok.query]
  refine iteF ⟨_, rfl, _, rfl, _, rfl, v, es, ex, k, c, rfl, rv1, ok.pos.le, ok.cell, ok.reads, q H1 k1⟩
end
end NV
/-! TupDc -/
set_option Elab.async false
set_option linter.all false
set_option maxRecDepth 100000
set_option maxHeartbeats 600000
/-! dicts with tuples as keys: one pair written out, and their pairs gone through -/
namespace NV
open PySem PySem.Spec PyProof.Rows
open L2
/-- the pairs of a locked dict whose keys are tuples: the key's own tuple, and the value, in a new one -/
def ItT (d : Addr) (o : Obj) (kvs : List (List L2.Key × V)) : It where
  go := fun i H => H d = some (.frz o (.dT kvs)) ∧ i < kvs.length
  yld := fun i H x H' => ∃ (T q : Addr) (k : List L2.Key) (v : V), kvs[i]? = some (k, v) ∧ x = .ref T ∧ H T = none ∧ H q = some (.tup (k.map kV)) ∧ H' = upd H T (.tup [.ref q, v])
  stop := fun i H => H d = some (.frz o (.dT kvs)) ∧ kvs.length ≤ i
section
variable {X : Cx} {pins : List (Addr × Obj)} {σ : L2.St} {H : Hp} {s : Shared} {d : Addr} {o : Obj}
/-- what stands at a locked dict of tuple keys -/
theorem lockedT {kvs : List (List L2.Key × V)} (I : Inv X pins σ H s) (h : H d = some (.frz o (.dT kvs))) :
    (d == sysModules) = false ∧ ∃ (es : Array DictEntry) (ep : Nat), DT.Raw s.heap d es ep ∧ o.data = .dict es ep ∧ es.size = kvs.length ∧
      ∀ (i : Nat) (k : List L2.Key) (v : V), kvs[i]? = some (k, v) → ∃ (en : DictEntry) (q : Addr), es[i]? = some en ∧ en.key = .ref q ∧ H q = some (.tup (k.map kV)) ∧ RelV v en.val := by
  obtain ⟨at_, _, hs, xs, pr, o2, es, ep, ho, hx, hdt, he, _⟩ := I.hok d _ h
  have ho2 := ho
  rw [at_] at ho
  obtain rfl := Option.some.inj ho
  refine ⟨hs, es, ep, ⟨_, ho2, hx, hdt⟩, hdt, ?_, fun i k v e => ?_⟩
  · have a := size_of_entries he
    have b := Paired.length pr
    omega
  · obtain ⟨b, hb, e1, e2, e3⟩ := paired_get pr e
    have q := entry_at he i
    rw [hb] at q
    exact ⟨_, b.2.1, q, rfl, e2, e3⟩
end
theorem turn_itemsT {P : Program} {w : World} {K : PySem.W.Frag} {d : Addr} {o : Obj} {es : Array DictEntry} {ep : Nat} {kvs : List (List L2.Key × V)} {elts : List Expr} {kk : Nat} {tpos : Pos} (it : Addr) (hod : o.data = .dict es ep) :
    Turn P w K (.Tuple elts kk tpos) (ItT d o kvs) [it] it (fun i h => ∃ a b, IsItemIter h it d i kvs.length ep a b) where
  mem := by simp
  obj := fun i h st b hb => by
    obtain rfl : b = it := by simpa using hb
    obtain ⟨_, _, e⟩ := st
    exact ⟨_, e, fun v z => nomatch z⟩
  keep := fun i h h' st k => let ⟨a, b, e⟩ := st; ⟨a, b, k it (by simp) _ e⟩
  item := by
    intro X hP hw hK hc i pins s σ H E I hf st hg
    subst hP hw hK
    obtain ⟨hd, hi⟩ := hg
    obtain ⟨hs, es2, ep2, raw, hdt, hsz, ent⟩ := lockedT I hd
    obtain ⟨rfl, rfl⟩ := dict_ep hod hdt
    obtain ⟨⟨k, v⟩, hkv⟩ : ∃ p, kvs[i]? = some p := ⟨_, List.getElem?_eq_getElem hi⟩
    obtain ⟨en, q, hen, hkey, hq, hv⟩ := ent i k v hkv
    obtain ⟨a, b, he⟩ := st
    rw [← hsz] at he
    have hi2 : i < es2.size := by omega
    have hee : es2[i] = en := by
      have z := hen
      rw [Array.getElem?_eq_getElem hi2] at z
      exact Option.some.inj z
    have below : it < s.heap.objs.size := Heap.lt_size he
    refine DT.nextI he raw hi2 fun h1 ho hT hz hk => ?_
    refine ⟨_, rfl, wpAny_letOwnedTupleGo_items (s := { s with heap := h1 }) ho fun h2 he2 sb => ?_⟩
    have hT2 := (sb.2 _ (Nat.ne_of_gt below)).trans hT
    rw [hee, hkey] at hT2
    have new : ObjOk X.prog X.w (upd H s.heap.objs.size (.tup [.ref q, v])) h2 s.heap.objs.size (.tup [.ref q, v]) :=
      ⟨by show 2 ≤ sizeLine; decide, [.ref q, en.val], .cons rfl (.cons hv .nil), ⟨_, hT2, rfl, _, rfl⟩⟩
    have J : Inv X pins σ (upd H s.heap.objs.size (.tup [.ref q, v])) { s with heap := h2 } :=
      I.turnedNew (t' := s.toks) (ch := [it]) (fun b ob hb e => (sb.2 b (by simpa using hb)).trans (hk b ob (by simpa using hb) e)) hf (Nat.le_refl _) new
    refine ⟨.ref s.heap.objs.size, _, J, rfl, ⟨_, q, k, v, hkv, rfl, I.hok.fresh (Nat.le_refl _), hq, rfl⟩, ⟨es2[i].key, es2[i].val, ?_⟩, fun b hb => ?_⟩
    · rw [← hsz]; exact he2
    · obtain rfl : b = it := by simpa using hb
      rw [upd_ne (Nat.ne_of_lt below)]
      exact (hf b (by simp)).1
  done := by
    intro X hP hw hK hc i pins s σ H E I hf st hg
    subst hP hw hK
    obtain ⟨hd, hi⟩ := hg
    obtain ⟨f0, f1, f2, f3, f4, f5⟩ := hf it (by simp)
    obtain ⟨hs, es2, ep2, raw, hdt, hsz, ent⟩ := lockedT I hd
    obtain ⟨rfl, rfl⟩ := dict_ep hod hdt
    obtain ⟨a, b, he⟩ := st
    rw [← hsz] at he
    exact DT.endI (I.ok.hd hc) he raw (by omega) fun h2 eb => ⟨rfl, I.turned (t' := s.toks) (fun b ob hb e => eb b ob hb e) f0 f1 f3 f4 f5⟩
  self := fun A i s Q E st h => let ⟨_, _, e⟩ := st; PySem.W.kcp_self e h
def iItemsT (td : TE) : TI := fun σ H R => td σ H fun x H1 => ∃ (d : Addr) (o : Obj) (kvs : List (List L2.Key × V)), x = .ref d ∧ H1 d = some (.frz o (.dT kvs)) ∧ R (ItT d o kvs) H1
theorem pi_itemsT {X : Cx} {e : Expr} {td : TE} {apos cpos : Pos} {elts : List Expr} {kk : Nat} {tpos : Pos} (he : PE X e td) (hbase : attributeBase e "items" X.env (eval e X.env) = eval e X.env := by rfl) (hline : (apos.endLine == cpos.line) = true := by rfl) :
    PI X (.Tuple elts kk tpos) (.Call (.Attribute e "items" apos) [] [] cpos) (iItemsT td) := by
  refine ⟨fun pins s σ H R I h => ?_⟩
  refine wpAny_Call_method (T := "dict") (id := "dict.items") hbase rfl hline F.plainAttrs_dict F.slot_dict_items F.type_dict_items (thn (he.run pins s σ H _ I h) fun u s1 ⟨x, H1, J, rx, d, o, kvs, ex, hd, q⟩ => ?_)
  subst ex
  obtain rfl : u = Value.ref d := rx
  obtain ⟨hs, es, ep, raw, hdt, hsz, ent⟩ := lockedT J hd
  obtain ⟨ob, hob, hx, hbd⟩ := id raw
  refine ⟨raw.typeIs, (fun b q => by cases q; exact ⟨ob, hob, hx.2.1⟩), ?_⟩
  have J2 : Inv X pins σ H1 { s1 with heap := s1.heap.push { cls := .type "dict_items", data := .fields #[.ref d] } } := J.kept (t' := s1.toks) fun b ob q => Heap.get?_push_of_some _ q
  have fin : wpAny (model X.prog X.w) X.A (pyIter (.ref s1.heap.objs.size)) (PIE X pins σ (.Tuple elts kk tpos) R) X.xe { s1 with heap := s1.heap.push { cls := .type "dict_items", data := .fields #[.ref d] } } := by
    refine DT.iterI (d := d) ⟨_, Heap.get?_push_size _ rfl, rfl, rfl⟩ (raw.push _) (pi_one (tk := s1.toks) J2 _ (turn_itemsT _ hdt) ⟨.none, .none, ?_⟩ q)
    rw [← hsz]
    exact Heap.get?_push_size _ rfl
  show wpAny _ _ (callWith cpos (.builtin "dict.items") [.ref d] [] []) _ X.xe s1
  exact method_meetsIn F.slot_dict_items F.entry_dict_items rfl (PySem.evalArgs_none ⟨rfl, raw.typeIs, F.args_dict_items_1 _, _, DT.meetsItems hs, raw, fin⟩)
/-- {(..): v}: one pair, its key a tuple; the dict stands empty while the pair is made -/
def tDisT (tk tv : TE) : TE := fun σ H Q => ∀ p, H p = none → tk σ (upd H p (.dT [])) fun x H1 => tv σ H1 fun y H2 => H2 p = some (.dT []) ∧ ∃ (b : Addr) (k : List L2.Key), x = .ref b ∧ H2 b = some (.tup (k.map kV)) ∧ Q (.ref p) (upd H2 p (.dT [(k, y)]))
theorem pe_disT {X : Cx} {pos : Pos} {k v : Expr} {tk tv : TE} (hu : X.A.units + 1 < cLine) (hk : PE X k tk) (hv : PE X v tv) : PE X (.Dict [some k] [v] pos) (tDisT tk tv) := by
  refine ⟨fun pins s σ H Q I q => ?_⟩
  have hn := I.hok.fresh (Nat.le_refl s.heap.objs.size)
  have I1 := I.laid (a := s.heap.objs.size) (o := .dT []) (h' := s.heap.push { cls := .type "dict", data := .dict #[] }) (t' := s.toks) (fun _ _ q => Heap.get?_push_of_some _ q) (Nat.le_refl _) (dt_empty s.heap I.big)
  have room : (tupleKind (mixKind X.prog X.w)).room X.A := by
    show X.A.units < cLine
    omega
  rw [arm_eval_Dict, zip_pairTrees [some k] [v] X.env pos rfl rfl, dictDisplay_pairs _ (by simp [pairTrees]) (by simp [pairTrees])]
  refine wpAny_bind (wpAny_standAt (wpAny_bind (wpAny_subDictH (knd := tupleKind (mixKind X.prog X.w)) room (by simp [pairTrees]) ?_)))
  refine pairTrees_cons_walk (thn (hk.run pins _ σ _ _ I1 (q _ hn)) fun ku s2 ⟨x, H1, I2, rx, q2⟩ => thn (hv.run pins _ σ _ _ I2 q2) fun vu s3 ⟨y, H2, I3, ry, e, b, kk, ex, eb, q3⟩ => pairTrees_nil_walk ?_)
  subst ex
  obtain rfl : ku = Value.ref b := rx
  obtain ⟨z, hd, xs0, r0, dd⟩ := dt_of I3.hok e
  cases r0
  refine ⟨[(kk, b, vu)], ⟨rfl, rfl, key_of I3.hok eb, trivial⟩, dd, fun h' tk dd' hs => wpAny_pure ⟨.ref s.heap.objs.size, _, ?_, rfl, q3⟩⟩
  obtain ⟨qo, es, ep, hq, h2, h3, h4, _, h5⟩ := dd'
  have eb2 : (upd H2 s.heap.objs.size (.dT [(kk, y)])) b = some (.tup (kk.map kV)) := by
    rw [upd_ne (ne_of eb e (fun z => nomatch z))]
    exact eb
  exact d_write I3 (by rw [e]; exact True.intro) hs ⟨qo, hq⟩ ⟨by show 1 ≤ sizeLine; decide, hd, _, .cons ⟨rfl, eb2, ry⟩ .nil, qo, es, ep, hq, h2, h3, h4, h5⟩
end NV
/-! V6 -/
set_option Elab.async false
set_option linter.all false
set_option maxRecDepth 100000
set_option maxHeartbeats 600000
/-! the rows of triples_of in its two dicts -/
namespace NV
open PySem PySem.Spec PyProof.Rows L2
open C8 (pss_cut pe_gc)
def optV : Option Str → V
  | none => .non
  | some z => .str z
def optD : Option Str → PyData
  | none => .none
  | some z => .str z
def rowKV (r : Row) : List L2.Key × V := ([Sum.inr r.1, Sum.inr r.2.1], optV r.2.2)
def rowD (r : Row) : PyData := .tuple [.str r.1, .str r.2.1, optD r.2.2]
theorem rowKV_key (r : Row) (a b : Str) : (rowKV r).1 = [Sum.inr a, Sum.inr b] ↔ keyR r = (a, b) := by
  unfold rowKV keyR
  constructor
  · intro h
    injection h with h1 h2
    injection h2 with h2 _
    rw [Sum.inr.inj h1, Sum.inr.inj h2]
  · intro h
    rw [Prod.mk.injEq] at h
    rw [h.1, h.2]
theorem put_row {rows : List Row} {a w id : Str} (h : (a, w) ∈ rows.map keyR) : putK (rows.map rowKV) [Sum.inr a, Sum.inr w] (.str id) = (setN w id [a] rows).map rowKV := by
  have hany : ((rows.map rowKV).any fun kv => decide (kv.1 = [Sum.inr a, Sum.inr w])) = true := by
    rw [List.any_eq_true]
    obtain ⟨r, hr, e⟩ := List.mem_map.mp h
    exact ⟨rowKV r, List.mem_map.mpr ⟨r, hr, rfl⟩, decide_eq_true ((rowKV_key r a w).2 e)⟩
  unfold putK
  rw [if_pos hany]
  unfold setN
  rw [List.map_map, List.map_map]
  refine List.map_congr_left fun r _ => ?_
  show (if (rowKV r).1 = _ then ((rowKV r).1, V.str id) else rowKV r) = rowKV (setR w id [a] r)
  by_cases hk : keyR r = (a, w)
  · rw [if_pos ((rowKV_key r a w).2 hk), setR_yes (congrArg Prod.snd hk) (by rw [show r.1 = a from congrArg Prod.fst hk]; simp)]
    rfl
  · rw [if_neg (fun z => hk ((rowKV_key r a w).1 z)), setR_no (fun z => hk ?_)]
    unfold keyR
    rw [z.1, List.mem_singleton.mp z.2]
/-! ### the dict of those who wait -/
structure WaitAt (Hi : Hp) (wd : Addr) (op : Str → List Str) (n : Nat) (H : Hp) : Prop where
  at_ : ∃ kvs : List (L2.Key × V), H wd = some (.dK kvs) ∧ kvs.length ≤ n ∧ (∀ c : Str, match valV kvs (Sum.inr c : L2.Key) with
    | some v => ∃ l, v = .ref l ∧ Hi l = none ∧ op c ≠ [] ∧ H l = some (.lst ((op c).map V.str))
    | none => op c = []) ∧ ∀ (c c' : Str) (l : Addr), valV kvs (Sum.inr c : L2.Key) = some (.ref l) → valV kvs (Sum.inr c' : L2.Key) = some (.ref l) → c = c'
theorem WaitAt.keep {Hi : Hp} {wd : Addr} {op : Str → List Str} {n : Nat} {H H' : Hp} (h : WaitAt Hi wd op n H) (k : Kp [] H H') : WaitAt Hi wd op n H' := by
  obtain ⟨kvs, e, l, q, d⟩ := h
  refine ⟨kvs, k _ _ (by simp) e, l, fun c => ?_, d⟩
  have := q c
  cases hv : valV kvs (Sum.inr c : L2.Key) with
  | none => rw [hv] at this; exact this
  | some v =>
    rw [hv] at this
    obtain ⟨l, e, h1, h2, h3⟩ := this
    exact ⟨l, e, h1, h2, k _ _ (by simp) h3⟩
/-- another dict, of tuples, changes -/
theorem WaitAt.off {Hi : Hp} {wd sd : Addr} {op : Str → List Str} {n : Nat} {H H' : Hp} (h : WaitAt Hi wd op n H) (k : Kp [sd] H H') {x : List (List L2.Key × V)} (hs : H sd = some (.dT x)) : WaitAt Hi wd op n H' := by
  obtain ⟨kvs, e, l, q, d⟩ := h
  refine ⟨kvs, k _ _ (fun z => by rw [List.mem_singleton.mp z, hs] at e; cases e) e, l, fun c => ?_, d⟩
  have := q c
  cases hv : valV kvs (Sum.inr c : L2.Key) with
  | none => rw [hv] at this; exact this
  | some v =>
    rw [hv] at this
    obtain ⟨l, e, h1, h2, h3⟩ := this
    exact ⟨l, e, h1, h2, k _ _ (fun z => by rw [List.mem_singleton.mp z, hs] at h3; cases h3) h3⟩
theorem WaitAt.same {Hi : Hp} {wd : Addr} {op op' : Str → List Str} {n m : Nat} {H : Hp} (h : WaitAt Hi wd op n H) (e : ∀ c, op c = op' c) (l : n ≤ m) : WaitAt Hi wd op' m H := by
  rw [show op' = op from funext fun c => (e c).symm]
  obtain ⟨kvs, e, l', q⟩ := h
  exact ⟨kvs, e, by omega, q⟩
theorem valV_drop (kvs : List (L2.Key × V)) (k j : L2.Key) : valV (dropK kvs k) j = if j = k then none else valV kvs j := by
  unfold dropK
  induction kvs with
  | nil => split <;> rfl
  | cons p l ih =>
    rw [List.filter_cons]
    by_cases h : p.1 = k
    · rw [if_neg (by simp [h])]
      rw [ih]
      by_cases hj : j = k
      · rw [if_pos hj, if_pos hj]
      · rw [if_neg hj, if_neg hj, valV_neg (fun z => hj (z.symm.trans h))]
    · rw [if_pos (by simp [h])]
      by_cases hp : p.1 = j
      · rw [valV_pos hp, valV_pos hp, if_neg (fun z => h (hp.trans z))]
      · rw [valV_neg hp, valV_neg hp, ih]
/-- a cell's waiters are taken out -/
theorem WaitAt.pop {Hi : Hp} {wd : Addr} {op : Str → List Str} {n : Nat} {H : Hp} (h : WaitAt Hi wd op n H) {w : Str} (hw : op w ≠ []) : ∃ (kvs : List (L2.Key × V)) (l : Addr), H wd = some (.dK kvs) ∧ valV kvs (Sum.inr w : L2.Key) = some (.ref l) ∧ Hi l = none ∧ H l = some (.lst ((op w).map V.str)) ∧
    WaitAt Hi wd (fun c => if c = w then [] else op c) n (upd H wd (.dK (dropK kvs (Sum.inr w)))) := by
  obtain ⟨kvs, e, ln, q, d⟩ := h
  have qw := q w
  cases hv : valV kvs (Sum.inr w : L2.Key) with
  | none => rw [hv] at qw; exact absurd qw hw
  | some v =>
    rw [hv] at qw
    obtain ⟨l, rfl, h1, h2, h3⟩ := qw
    refine ⟨kvs, l, e, hv, h1, h3, dropK kvs (Sum.inr w), upd_same, Nat.le_trans (dropK_le kvs _) ln, fun c => ?_, fun c c' l' => ?_⟩
    · rw [valV_drop]
      by_cases hc : c = w
      · rw [if_pos (by rw [hc]), if_pos hc]
      · rw [if_neg (fun z => hc (Sum.inr.inj z)), if_neg hc]
        have := q c
        cases hv2 : valV kvs (Sum.inr c : L2.Key) with
        | none => rw [hv2] at this; exact this
        | some v2 =>
          rw [hv2] at this
          obtain ⟨l2, e2, g1, g2, g3⟩ := this
          refine ⟨l2, e2, g1, g2, ?_⟩
          rw [upd_ne (fun z => by rw [z, e] at g3; cases g3)]
          exact g3
    · rw [valV_drop, valV_drop]
      split
      · intro z; cases z
      · split
        · intro _ z; cases z
        · exact d c c' l'
theorem WaitAt.in {Hi : Hp} {wd : Addr} {op : Str → List Str} {n : Nat} {H : Hp} (h : WaitAt Hi wd op n H) (c : Str) : ∃ o, DGet H wd (.str c) o ∧ o.isSome = decide (op c ≠ []) := by
  obtain ⟨kvs, e, ln, q, d⟩ := h
  refine ⟨_, DGet.k (k := Sum.inr c) e, ?_⟩
  have := q c
  cases hv : valV kvs (Sum.inr c : L2.Key) with
  | none => rw [hv] at this; simp [this]
  | some v =>
    rw [hv] at this
    obtain ⟨l, _, _, h2, _⟩ := this
    simp [h2]
theorem kp_none {H H' : Hp} {p : Addr} (k : Kp [] H H') (h : H' p = none) : H p = none := by
  cases e : H p with
  | none => rfl
  | some o => rw [k _ _ (by simp) e] at h; cases h
/-- a new object alone changes -/
theorem WaitAt.fresh {Hi : Hp} {wd C : Addr} {op : Str → List Str} {n : Nat} {H H' : Hp} (h : WaitAt Hi wd op n H) (k : Kp [C] H H') (hC : H C = none) : WaitAt Hi wd op n H' := h.keep (Kp.drop k hC)
/-- a further waiter: his cell's list stands already .. -/
theorem WaitAt.more {Hi : Hp} {wd : Addr} {op : Str → List Str} {n : Nat} {H : Hp} {kvs : List (L2.Key × V)} (h : WaitAt Hi wd op n H) (e : H wd = some (.dK kvs)) {r : Str} {v : V} (hv : valV kvs (Sum.inr r : L2.Key) = some v) (id : Str) :
    ∃ l, v = .ref l ∧ Hi l = none ∧ H l = some (.lst ((op r).map V.str)) ∧ WaitAt Hi wd (fun c => if c = r then op c ++ [id] else op c) (n + 1) (upd H l (.lst ((op r).map V.str ++ [V.str id]))) := by
  obtain ⟨kvs', e', ln, q, d⟩ := h
  rw [e] at e'
  cases e'
  have qr := q r
  rw [hv] at qr
  obtain ⟨l, rfl, h1, h2, h3⟩ := qr
  have nl : wd ≠ l := fun z => by rw [z, h3] at e; cases e
  refine ⟨l, rfl, h1, h3, kvs, by rw [upd_ne nl]; exact e, by omega, fun c => ?_, d⟩
  have qc := q c
  cases hc : valV kvs (Sum.inr c : L2.Key) with
  | none =>
    rw [hc] at qc
    have ne : c ≠ r := fun z => by rw [z, hv] at hc; cases hc
    dsimp only
    rw [if_neg ne]
    exact qc
  | some u =>
    rw [hc] at qc
    obtain ⟨l2, rfl, g1, g2, g3⟩ := qc
    by_cases hcr : c = r
    · subst hcr
      rw [hv] at hc
      cases hc
      refine ⟨l, rfl, h1, by rw [if_pos rfl]; simp, ?_⟩
      rw [upd_same, if_pos rfl, List.map_append]
      rfl
    · refine ⟨l2, rfl, g1, by rw [if_neg hcr]; exact g2, ?_⟩
      have nl2 : l2 ≠ l := fun z => hcr (d c r l (by rw [hc, z]) hv)
      rw [upd_ne nl2, if_neg hcr]
      exact g3
/-- .. or is new -/
theorem WaitAt.first {Hi : Hp} {wd L : Addr} {op : Str → List Str} {n : Nat} {H : Hp} {kvs : List (L2.Key × V)} (h : WaitAt Hi wd op n H) (e : H wd = some (.dK kvs)) {r : Str} (hv : valV kvs (Sum.inr r : L2.Key) = none) (hL : H L = some (.lst [])) (hiL : Hi L = none) (id : Str) :
    WaitAt Hi wd (fun c => if c = r then op c ++ [id] else op c) (n + 1) (upd (upd H wd (.dK (putK kvs (Sum.inr r) (.ref L)))) L (.lst [V.str id])) := by
  obtain ⟨kvs', e', ln, q, d⟩ := h
  rw [e] at e'
  cases e'
  have qr := q r
  rw [hv] at qr
  have qr : op r = [] := qr
  have nl : wd ≠ L := fun z => by rw [z, hL] at e; cases e
  have apart : ∀ (c : Str) (l2 : Addr), valV kvs (Sum.inr c : L2.Key) = some (.ref l2) → l2 ≠ L := fun c l2 hc z => by
    have qc := q c
    rw [hc] at qc
    obtain ⟨l3, e3, _, g2, g3⟩ := qc
    cases e3
    rw [z, hL] at g3
    cases ho : op c with
    | nil => exact g2 ho
    | cons x xs => rw [ho] at g3; cases g3
  refine ⟨putK kvs (Sum.inr r) (.ref L), by rw [upd_ne nl]; exact upd_same, Nat.le_trans (length_putK _ _ _) (by omega), fun c => ?_, fun c c' l2 => ?_⟩
  · rw [valV_put]
    by_cases hcr : c = r
    · rw [if_pos (by rw [hcr])]
      refine ⟨L, rfl, hiL, by rw [if_pos hcr]; simp, ?_⟩
      rw [upd_same, if_pos hcr, hcr, qr]
      rfl
    · rw [if_neg (fun z => hcr (Sum.inr.inj z))]
      have qc := q c
      cases hc : valV kvs (Sum.inr c : L2.Key) with
      | none =>
        rw [hc] at qc
        dsimp only
        rw [if_neg hcr]
        exact qc
      | some u =>
        rw [hc] at qc
        obtain ⟨l2, rfl, g1, g2, g3⟩ := qc
        refine ⟨l2, rfl, g1, by rw [if_neg hcr]; exact g2, ?_⟩
        rw [upd_ne (apart c l2 hc), upd_ne (fun z => by rw [z, e] at g3; cases g3), if_neg hcr]
        exact g3
  · rw [valV_put, valV_put]
    by_cases h1 : c = r
    · by_cases h2 : c' = r
      · intro _ _; rw [h1, h2]
      · rw [if_pos (by rw [h1]), if_neg (fun z => h2 (Sum.inr.inj z))]
        intro x y
        cases x
        exact absurd rfl (apart c' L y)
    · by_cases h2 : c' = r
      · rw [if_neg (fun z => h1 (Sum.inr.inj z)), if_pos (by rw [h2])]
        intro x y
        cases y
        exact absurd rfl (apart c L x)
      · rw [if_neg (fun z => h1 (Sum.inr.inj z)), if_neg (fun z => h2 (Sum.inr.inj z))]
        exact d c c' l2
/-- tuples stay -/
def KpT (H H' : Hp) : Prop := ∀ b xs, H b = some (.tup xs) → H' b = some (.tup xs)
theorem KpT.refl {H : Hp} : KpT H H := fun _ _ e => e
theorem KpT.trans {H H1 H2 : Hp} (a : KpT H H1) (b : KpT H1 H2) : KpT H H2 := fun c xs e => b c xs (a c xs e)
theorem KpT.of {H H' : Hp} (k : Kp [] H H') : KpT H H' := fun b xs e => k b _ (by simp) e
theorem KpT.put {H : Hp} {p : Addr} {o o' : HO} (h : H p = some o) (n : ∀ xs, o ≠ .tup xs) : KpT H (upd H p o') := fun b xs e => by
  rw [upd_ne (fun z => by rw [z, h] at e; exact n xs (Option.some.inj e))]
  exact e
end NV
/-! V7 -/
set_option Elab.async false
set_option linter.all false
set_option maxRecDepth 100000
set_option maxHeartbeats 1000000
/-! the package's triples_of -/
namespace NV
open PySem PySem.Spec PyProof.Rows L2
open C8 (pss_cut pe_gc)
abbrev sTriplesOf : Stmt := topS 38
theorem scTriplesOf : FnScope ["live", "target", "sources", "waiting", "entry", "reader", "cell", "found", "written", "readers", "name", "read", "source"] ["live", "target"] (defScope sTriplesOf) := ⟨rfl, rfl, rfl, by decide +kernel, rfl, by decide +kernel, by decide +kernel⟩
theorem range_pick {α : Type} (l : List α) (p : α → Bool) (f : α → V) (d : α) : ((List.range l.length).filter fun j => p (l.getD j d)).map (fun j => f (l.getD j d)) = (l.filter p).map f := by
  have e : (List.range l.length).map (fun j => l.getD j d) = l := by
    apply List.ext_getElem
    · simp
    · intro j h1 h2
      simp [List.getD_eq_getElem?_getD, List.getElem?_eq_getElem h2]
  conv => rhs; rw [← e]
  rw [List.filter_map, List.map_map]
  rfl
/-! ### the two dicts -/
structure TrAt (Hi : Hp) (SD WD : Addr) (rows : List Row) (n : Nat) (H : Hp) : Prop where
  kp : Kp [] Hi H
  src : H SD = some (.dT (rows.map rowKV))
  wai : WaitAt Hi WD (openNs rows) n H
theorem TrAt.keep {Hi : Hp} {SD WD : Addr} {rows : List Row} {n : Nat} {H H' : Hp} (h : TrAt Hi SD WD rows n H) (k : Kp [] H H') : TrAt Hi SD WD rows n H' := ⟨h.kp.trans k, k _ _ (by simp) h.src, h.wai.keep k⟩
theorem TrAt.ne {Hi : Hp} {SD WD : Addr} {rows : List Row} {n : Nat} {H : Hp} (h : TrAt Hi SD WD rows n H) : SD ≠ WD := fun z => by
  obtain ⟨kvs, e, _⟩ := h.wai.at_
  have := h.src
  rw [z, e] at this
  cases this
/-- a further row that waits, in the dict of sources -/
theorem put_new {rows : List Row} {a c : Str} (h : (a, c) ∉ rows.map keyR) : putK (rows.map rowKV) [Sum.inr a, Sum.inr c] V.non = (rows ++ [(a, c, none)]).map rowKV := by
  have nk : valV (rows.map rowKV) [Sum.inr a, Sum.inr c] = none := by
    rw [← Option.not_isSome_iff_eq_none, ← valV_any, List.any_eq_true]
    rintro ⟨x, hx, hd⟩
    obtain ⟨r, hr, rfl⟩ := List.mem_map.mp hx
    exact h (List.mem_map.mpr ⟨r, hr, (rowKV_key r a c).1 (of_decide_eq_true hd)⟩)
  rw [putK_new _ nk, List.map_append]
  rfl
def spTriples : Sp := fun vs H Q _ => ∃ (v : V) (t : Addr) (es : List Ent) (ex : List Addr) (z c : Str) (k : Nat), vs = [v, .ref t] ∧ Rp ex H (logD es) v ∧ H t = some (.tup [.str z, .str c]) ∧ (∀ e ∈ es, e.Ok) ∧ (es.map Ent.id).Nodup ∧ es.length ≤ 1000 ∧ PosOf es z k ∧ Live ex H ∧
  ∀ p H', Kp [] H H' → H p = none → Rp ex H' (.list ((backL (es.take k) [(z, c, none)]).map rowD)) (.ref p) → Q (.ref p) H'
theorem id_ne {e : Ent} (h : e.Ok) : e.id ≠ "" := fun z => by
  have : idB e.id = true := by
    cases e with
    | wr _ _ _ _ => exact h.1
    | qu _ _ => exact h.1
  rw [z] at this
  exact absurd this (by decide)
/-- the reader is none of those before -/
theorem pos_fresh {es : List Ent} {z : Str} {k : Nat} (ok : ∀ e ∈ es, e.Ok) (h : PosOf es z k) : z ∉ (es.take k).map Ent.id := fun y => by
  obtain ⟨e, he, hid⟩ := List.mem_map.mp y
  rcases h with ⟨rfl, _⟩ | ⟨_, _, no⟩
  · exact id_ne (ok e (List.mem_of_mem_take he)) hid
  · obtain ⟨i, hi⟩ := List.mem_iff_getElem?.mp he
    have hik : i < k := by
      have := (List.getElem?_eq_some_iff.mp hi).1
      rw [List.length_take] at this
      omega
    rw [List.getElem?_take_of_lt hik] at hi
    exact no i e hik hi hid
section
variable {P : Program} {w : World} {K : PySem.W.Frag} {mg : Str → Option Value} {base : Heap}
theorem ok_triples (DTriplesOf : Fn K mg "triples_of" sTriplesOf ["live", "target"]) (DPositionIn : Fn K mg "position_in" sPositionIn ["log", "entry_id"]) (DCellsWritten : Fn K mg "cells_written" sCellsWritten ["entry"]) (b_reversed : mg "reversed" = none)
    (g1 : ∃ u, mg "ID" = some u ∧ L2.RelV (.int 1) u) (g2 : ∃ u, mg "READS" = some u ∧ L2.RelV (.int 2) u)
    (GPositionIn : FnOk P w K mg base CX0 1 DPositionIn.f DPositionIn.fd ["log", "entry_id"] spPos) (GCellsWritten : FnOk P w K mg base CX0 1 DCellsWritten.f DCellsWritten.fd ["entry"] spCellsW) : FnOk P w K mg base CX0 2 DTriplesOf.f DTriplesOf.fd ["live", "target"] spTriples := by
  refine DTriplesOf.F.ok scTriplesOf (fun vs H Q E h => ?_) (fun cdv A outer s H vs Q E hr h => ?_)
  · obtain ⟨v, t, es, ex, z, c, k, rfl, _⟩ := h
    rfl
  obtain ⟨v, t, es, ex, z, c, k, rfl, rv, ht, ok, nd, hlen, pos, lv, q⟩ := h
  have hu := hu_of hr
  have line : (100000 : Nat) < sizeLine := by decide
  refine ⟨_, pss_cons (ps_asg (pv 1) (pg_tupE K (by rfl) (pgs_cons (pg_name (i := 5) scTriplesOf.nd rfl (.inl rfl)) (pgs_cons (pg_name (i := 6) scTriplesOf.nd rfl (.inl rfl)) pgs_nil))))
      (pss_cons (ps_set (i := 2) scTriplesOf.nd rfl (.inl rfl) (pe_disT hu (pe_tup (pa_cons (pv 5) (pa_cons (pv 6) pa_nil))) pe_non))
      (pss_cons (ps_set (i := 3) scTriplesOf.nd rfl (.inr rfl) (pe_disp (pps_cons (pv 6) (pe_lst (pa_cons (pv 5) pa_nil)) pps_nil) (by rfl) (by rfl) (fun z => by cases z) (by decide)))
      (pss_cons (ps_for PassesOwn.never rfl (RT.pi_revA (by rfl) b_reversed (pe_slice (sltAE K) (pv 0) po_none (po_some (pe_fn DPositionIn GPositionIn hr (pa_cons (pv 0) (pa_cons (pv 5) pa_nil)))))) (pg_name (i := 4) scTriplesOf.nd rfl (.inl rfl))
      (pss_cons (ps_setLc (i := 7) (own := [("written", 8)]) (g := gName 8) (by rfl) scTriplesOf.nd rfl rfl (sw_true rfl rfl rfl (by decide +kernel)) (piTupE K (pe_fn DCellsWritten GCellsWritten hr (pa_cons (pv 4) pa_nil))) (blkOk_by (N := ["live", "target", "sources", "waiting", "entry", "reader", "cell", "found", "written", "readers", "name", "read", "source"]) (sc := defScope sTriplesOf) (by decide +kernel)) (fun _ _ _ _ _ => (pg_name (i := 8) scTriplesOf.nd rfl (.inl rfl))) (fun _ _ _ _ _ => (pts_one (pt_cmp (pc_din hu (pv 8) (pv 3))))) (fun _ _ _ _ _ => (pv 8)))
      (pss_cons (ps_for PassesOwn.never rfl (piListE K (pv 7)) (pg_name (i := 8) scTriplesOf.nd rfl (.inl rfl))
      (pss_cons (ps_set (i := 9) scTriplesOf.nd rfl (.inl rfl) (pe_dpop1 (pv 3) (pv 8) ⟨rfl, rfl, rfl, rfl⟩))
      (pss_one (ps_for PassesOwn.never rfl (piListE K (pv 9)) (pg_name (i := 10) scTriplesOf.nd rfl (.inl rfl))
      (pss_one (ps_dput hu (pv 2) (pe_tup (pa_cons (pv 10) (pa_cons (pv 8) pa_nil))) (pe_ix (ixtE K) (pv 4) (pe_gc (v := .int 1) rfl g1) (fun _ _ => rfl)) rfl))))))
      (pss_one (ps_if (pt_truth (pv 7) (by intro _; rfl))
      (pss_one (ps_for PassesOwn.never rfl (piTupE K (pe_ix (ixtE K) (pv 4) (pe_gc (v := .int 2) rfl g2) (fun _ _ => rfl))) (pg_name (i := 11) scTriplesOf.nd rfl (.inl rfl))
      (pss_cons (ps_dput hu (pv 2) (pe_tup (pa_cons (pe_ix (ixtE K) (pv 4) (pe_gc (v := .int 1) rfl g1) (fun _ _ => rfl)) (pa_cons (pv 11) pa_nil))) pe_non rfl)
      (pss_one (ps_expr (bmE K PySem.F.plainAttrs_list PySem.F.slot_list_append PySem.F.type_list_append mt_append (pe_dsetd (pv 3) (pv 11) (pe_lst pa_nil) ⟨rfl, rfl, rfl, rfl⟩) (pa_cons (pe_ix (ixtE K) (pv 4) (pe_gc (v := .int 1) rfl g1) (fun _ _ => rfl)) pa_nil)))))))
      pss_nil)))))
      (pss_one (ps_ret (pe_lock (pe_lc (own := [("name", 10), ("read", 11), ("source", 12)]) (g := gTup K 2 (gCons (gTup K 2 (gCons (gName 10) (gCons (gName 11) gNil))) (gCons (gName 12) gNil))) (tt := tYes) (by rfl) scTriplesOf.nd (pi_itemsT (pv 2)) (blkOk_by (N := ["live", "target", "sources", "waiting", "entry", "reader", "cell", "found", "written", "readers", "name", "read", "source"]) (sc := defScope sTriplesOf) (by decide +kernel)) (fun _ _ _ _ _ => (pg_tupE K (by rfl) (pgs_cons (pg_tupE K (by rfl) (pgs_cons (pg_name (i := 10) scTriplesOf.nd rfl (.inl rfl)) (pgs_cons (pg_name (i := 11) scTriplesOf.nd rfl (.inl rfl)) pgs_nil))) (pgs_cons (pg_name (i := 12) scTriplesOf.nd rfl (.inl rfl)) pgs_nil)))) (fun _ _ _ _ _ => pts_nil) (fun _ _ _ _ _ => (pe_tup (pa_cons (pv 10) (pa_cons (pv 11) (pa_cons (pv 12) pa_nil)))))))))))), ?_⟩
  refine ⟨_, rfl, t, _, rfl, .inl (.inl ht), rfl, _, _, rfl, _, _, rfl, rfl, ?_⟩
  -- the two dicts
  intro SD nSD
  have kS : Kp [] H (upd H SD (.dT [])) := Kp.laid nSD
  refine ⟨_, rfl, _, rfl, (by show 2 ≤ sizeLine; decide), fun T1 nT1 => ?_⟩
  have nST : SD ≠ T1 := fun z => by rw [← z, upd_same] at nT1; cases nT1
  refine ⟨by rw [upd_ne nST]; exact upd_same, T1, [Sum.inr z, Sum.inr c], rfl, upd_same, ?_⟩
  have kT1 : Kp [] (upd H SD (.dT [])) (upd (upd H SD (.dT [])) T1 (.tup [.str z, .str c])) := Kp.laid nT1
  have k1 : Kp [] H (upd (upd (upd H SD (.dT [])) T1 (.tup [.str z, .str c])) SD (.dT [([Sum.inr z, Sum.inr c], .non)])) := Kp.drop (((kS.trans kT1).mono (by simp)).trans (Kp.put (ex := [SD]) (by simp))) nSD
  have s1 : (upd (upd (upd H SD (.dT [])) T1 (.tup [.str z, .str c])) SD (.dT [([Sum.inr z, Sum.inr c], .non)])) SD = some (.dT ([((z, c, none) : Row)].map rowKV)) := upd_same
  obtain ⟨H1, e1⟩ : ∃ H1, upd (upd (upd H SD (.dT [])) T1 (.tup [.str z, .str c])) SD (.dT [([Sum.inr z, Sum.inr c], .non)]) = H1 := ⟨_, rfl⟩
  rw [e1] at k1 s1
  rw [e1]
  intro WD nWD
  refine ⟨_, rfl, _, rfl, (by show 1 ≤ sizeLine; decide), fun l nl => ?_⟩
  have nWl : WD ≠ l := fun z => by rw [← z, upd_same] at nl; cases nl
  refine ⟨by rw [upd_ne nWl]; exact upd_same, [(Sum.inr c, .ref l)], rfl, (by show 1 ≤ 15; decide), ?_⟩
  have hW0 : H WD = none := kp_none k1 nWD
  have kW : Kp [] H1 (upd H1 WD (.dK [])) := Kp.laid nWD
  have hl1 : H1 l = none := kp_none kW nl
  have hl0 : H l = none := kp_none k1 hl1
  have nSW : SD ≠ WD := fun z => by rw [← z, s1] at nWD; cases nWD
  have nSl : SD ≠ l := fun z => by rw [← z, s1] at hl1; cases hl1
  have kl : Kp [] (upd H1 WD (.dK [])) (upd (upd H1 WD (.dK [])) l (.lst [.str z])) := Kp.laid nl
  have tr0 : TrAt H SD WD [(z, c, none)] 1 (upd (upd (upd H1 WD (.dK [])) l (.lst [.str z])) WD (.dK (mergeK [] [(Sum.inr c, .ref l)]))) := by
    refine ⟨k1.trans (Kp.drop (((kW.trans kl).mono (by simp)).trans (Kp.put (ex := [WD]) (by simp))) nWD), ?_, ?_⟩
    · rw [upd_ne nSW, upd_ne nSl, upd_ne nSW]
      exact s1
    · refine ⟨[(Sum.inr c, .ref l)], upd_same, Nat.le_refl _, fun d => ?_, fun a b l' ha hb => ?_⟩
      · have ho : openNs [(z, c, none)] d = if d = c then [z] else [] := by
          unfold openNs
          by_cases h : d = c
          · rw [if_pos h, List.filter_cons_of_pos (by simp [h])]; rfl
          · rw [if_neg h, List.filter_cons_of_neg (by simp; exact fun y => h y.symm)]; rfl
        by_cases h : d = c
        · rw [valV_pos (by rw [h])]
          rw [if_pos h] at ho
          refine ⟨l, rfl, hl0, by rw [ho]; simp, ?_⟩
          rw [upd_ne nWl.symm, upd_same, ho]
          rfl
        · rw [valV_neg (fun y => h (Sum.inr.inj y).symm)]
          rw [if_neg h] at ho
          exact ho
      · have one : ∀ d, valV [((Sum.inr c : L2.Key), V.ref l)] (Sum.inr d : L2.Key) = some (.ref l') → d = c := fun d hd => by
          by_cases h : (Sum.inr c : L2.Key) = Sum.inr d
          · exact (Sum.inr.inj h).symm
          · rw [valV_neg h] at hd; cases hd
        rw [one a ha, one b hb]
  obtain ⟨H2, e2⟩ : ∃ H2, upd (upd (upd H1 WD (.dK [])) l (.lst [.str z])) WD (.dK (mergeK [] [(Sum.inr c, .ref l)])) = H2 := ⟨_, rfl⟩
  rw [e2] at tr0
  rw [e2]
  -- the part of the log
  obtain ⟨a, xs, rfl, na, ha, hx⟩ := rv
  have hl : es.length = xs.length := by
    have := hx.length
    rwa [List.length_map] at this
  refine ⟨_, rfl, _, rfl, _, rfl, .ref a, es, ex, z, k, rfl, Rp.keep (tr0.kp.mono (by simp)) _ _ ⟨a, xs, rfl, na, ha, hx⟩, pos, fun H3 k3 => ⟨_, rfl, slA (k3 _ _ (by simp) (tr0.kp _ _ (by simp) ha)) na (fun p np => ((lv.kp0 tr0.kp).kp0 k3).fresh np) fun p H4 k4 e4 n4 => ?_⟩⟩
  rw [cut_to] at e4
  have tr4 := (tr0.keep k3).keep k4
  have hx1 : RpAll ex H ((es.take k).map Ent.data) (xs.take k) := by
    rw [List.map_take]
    exact (RpAll.cutT k hx).1
  have okf : ∀ e ∈ es.take k, e.Ok := fun e he => ok e (List.mem_of_mem_take he)
  have ndf : ((es.take k).map Ent.id).Nodup := nd.sublist ((List.take_sublist _ _).map _)
  have nzf : z ∉ (es.take k).map Ent.id := pos_fresh ok pos
  have flen : (es.take k).length ≤ 1000 := by rw [List.length_take]; omega
  generalize es.take k = fs at hx1 okf ndf nzf flen q
  generalize xs.take k = ys at e4 hx1
  have hfl : fs.length = ys.length := by
    have := hx1.length
    rwa [List.length_map] at this
  let Inv_ : Nat → L2.St → Hp → Prop := fun j σ H' => ∃ c4 c7 c8 c9 c10 c11 : Option V, σ = [some (.ref a), some (.ref t), some (.ref SD), some (.ref WD), c4, some (.str z), some (.str c), c7, c8, c9, c10, c11, none] ∧ TrAt H SD WD (backL (fs.drop (fs.length - j)) [(z, c, none)]) (1 + 3 * j) H' ∧ KpT H4 H'
  refine ⟨p, ys, rfl, .inr ⟨.inl (.inl e4), ?_⟩⟩
  refine ⟨fun j m σ H' => m = ys.length - j ∧ j ≤ ys.length ∧ Inv_ j σ H', ⟨ys.length, by simp, Nat.zero_le _, none, none, none, none, none, none, rfl, by rw [Nat.sub_zero, List.drop_length]; exact tr4, KpT.refl⟩, ?_⟩
  rintro j m σ H5 ⟨rfl, hj, c4, c7, c8, c9, c10, c11, rfl, tr5, kt5⟩
  have aT : ∀ {H' : Hp}, KpT H4 H' → SqT K H' p ys := fun k => .inl (.inl (k _ _ e4))
  rcases Nat.lt_or_ge j ys.length with lt | ge
  · have hix : ys.length - 1 - j < ys.length := by omega
    refine .inr ⟨⟨lt, ys, _, aT kt5, List.getElem?_eq_getElem hix⟩, Inv_ (j + 1), fun σ' H' i => ⟨ys.length - (j + 1), by omega, rfl, by omega, i⟩, ?_⟩
    rintro x H6 ⟨rfl, hx6⟩
    have hx6 := hx6 ys (aT kt5)
    obtain ⟨d, hd, rd⟩ := RpAll.back hx1 hx6
    obtain ⟨e, he, rfl⟩ : ∃ e, fs[ys.length - 1 - j]? = some e ∧ e.data = d := by
      rw [List.getElem?_map] at hd
      cases h : fs[ys.length - 1 - j]? with
      | none => rw [h] at hd; cases hd
      | some e => rw [h] at hd; exact ⟨e, rfl, Option.some.inj hd⟩
    have oke := okf e (List.mem_of_getElem? he)
    have hdrop : fs.drop (fs.length - (j + 1)) = e :: fs.drop (fs.length - j) := by
      have h1 : fs.length - (j + 1) = ys.length - 1 - j := by omega
      have h2 : fs.length - j = ys.length - 1 - j + 1 := by omega
      rw [h1, h2, List.drop_eq_getElem_cons (by omega)]
      congr 1
      exact (List.getElem?_eq_some_iff.mp he).2
    have rest_sub : List.Sublist (fs.drop (fs.length - j)) fs := List.drop_sublist _ _
    have nde : ((e :: fs.drop (fs.length - j)).map Ent.id).Nodup := by
      rw [← hdrop]
      exact ndf.sublist ((List.drop_sublist _ _).map _)
    have nze : z ∉ (e :: fs.drop (fs.length - j)).map Ent.id := by
      rw [← hdrop]
      exact fun y => nzf (((List.drop_sublist _ _).map Ent.id).subset y)
    have oke2 : ∀ u ∈ fs.drop (fs.length - j), u.Ok := fun u hu => okf u (rest_sub.subset hu)
    have hrl : (fs.drop (fs.length - j)).length = j := by rw [List.length_drop]; omega
    generalize hrest : fs.drop (fs.length - j) = rest at tr5 hdrop nde nze oke2 hrl
    have ndk : ((backL rest [(z, c, none)]).map keyR).Nodup := back_nd (by rw [List.map_cons, List.nodup_cons] at nde; exact nde.2) (fun y => nze (List.mem_cons_of_mem _ y)) fun u hu => (oke2 u hu).rs.1
    have hrn : (backL rest [(z, c, none)]).length ≤ 1 + 3 * j := by
      have := back_len (row := (z, c, none)) (l := rest) fun u hu => (oke2 u hu).rs.2
      omega
    have hnm : ∀ r ∈ backL rest [(z, c, none)], r.1 ≠ e.id := fun r hrr y => by
      rcases back_names r hrr with y2 | y2
      · exact nze (by rw [show z = r.1 from y2.symm, y]; exact List.mem_cons_self)
      · rw [List.map_cons, List.nodup_cons] at nde
        exact nde.1 (by rw [← y]; exact y2)
    have hback : backL (fs.drop (fs.length - (j + 1))) [(z, c, none)] = stepT e (backL rest [(z, c, none)]) := by rw [hdrop]; rfl
    generalize hrows : backL rest [(z, c, none)] = rows at tr5 ndk hrn hnm hback
    have re6 : Rp ex H6 e.data x := Rp.keep (tr5.kp.mono (by simp)) _ _ rd
    obtain ⟨d1, ed1, hd1, hd2⟩ := ent_reads e
    refine ⟨_, rfl, x, e, ex, rfl, re6, fun p7 H7 k7 e7 => ⟨p7, rfl, ⟨_, .inl (.inl e7)⟩, fun C nC => ?_⟩⟩
    have tr7 := tr5.keep k7
    have hwl : (e.ws.map V.str).length = e.ws.length := List.length_map ..
    have hw3 := oke.ws.2
    refine lc_growT (fun i => decide (openNs rows (e.ws.getD i "") ≠ [])) (fun i => V.str (e.ws.getD i "")) (.inl (.inl e7)) nC (by omega) (fun i y H8 Q8 hy k8 q8 => ?_) (fun i y H8 Q8 hy hp k8 q8 => ?_) fun H8 k8 e8 => ?_
    · have hyi : y = .str (e.ws.getD i "") := by
        rw [List.getElem?_map] at hy
        cases hi : e.ws[i]? with
        | none => rw [hi] at hy; cases hy
        | some cc => rw [hi] at hy; rw [List.getD_eq_getElem?_getD, hi]; exact (Option.some.inj hy).symm
      subst hyi
      obtain ⟨o, dg, ho⟩ := (tr7.wai.fresh k8 nC).in (e.ws.getD i "")
      refine ⟨_, rfl, _, rfl, WD, o, rfl, dg, ?_⟩
      rw [ho]
      exact ⟨_, rfl, q8 _ Kp.refl⟩
    · refine ⟨_, rfl, ?_⟩
      have hyi : y = .str (e.ws.getD i "") := by
        rw [List.getElem?_map] at hy
        cases hi : e.ws[i]? with
        | none => rw [hi] at hy; cases hy
        | some cc => rw [hi] at hy; rw [List.getD_eq_getElem?_getD, hi]; exact (Option.some.inj hy).symm
      rw [hyi]
      exact q8 _ Kp.refl
    -- the cells found
    rw [hwl] at e8
    rw [range_pick e.ws (fun cc => decide (openNs rows cc ≠ [])) V.str ""] at e8
    have tr8 := tr7.keep (Kp.drop k8 nC)
    have kt8 : KpT H4 H8 := (kt5.trans (KpT.of k7)).trans (KpT.of (Kp.drop k8 nC))
    have hws : ∀ cc, cc ∈ e.ws.filter (fun cc => decide (openNs rows cc ≠ [])) ↔ cc ∈ e.ws ∧ openNs rows cc ≠ [] := fun cc => by
      rw [List.mem_filter, decide_eq_true_iff]
    have ndw : (e.ws.filter (fun cc => decide (openNs rows cc ≠ []))).Nodup := oke.ws.1.sublist List.filter_sublist
    have lws : (e.ws.filter (fun cc => decide (openNs rows cc ≠ []))).length ≤ 3 := Nat.le_trans (List.length_filter_le _ _) hw3
    rw [step_close hws] at hback
    generalize e.ws.filter (fun cc => decide (openNs rows cc ≠ [])) = ws at e8 hws ndw lws hback
    have nCS : C ≠ SD := fun y => by rw [y, tr8.src] at e8; cases e8
    have nCW : C ≠ WD := fun y => by
      obtain ⟨kvs, ek, _⟩ := tr8.wai.at_
      rw [y, ek] at e8
      cases e8
    have wOf : ∀ {i : Nat} {y : V}, (ws.map V.str)[i]? = some y → ∃ w, ws[i]? = some w ∧ y = .str w := fun {i y} hy => by
      rw [List.getElem?_map] at hy
      cases hi : ws[i]? with
      | none => rw [hi] at hy; cases hy
      | some cc => rw [hi] at hy; exact ⟨cc, rfl, (Option.some.inj hy).symm⟩
    refine ⟨_, rfl, C, rfl, ⟨_, .inl (.inl e8)⟩, for_list (K := K) (a := C) (xs := ws.map V.str) (fun i σ H' => ∃ c8 c9 c10 : Option V, σ = [some (.ref a), some (.ref t), some (.ref SD), some (.ref WD), some x, some (.str z), some (.str c), some (.ref C), c8, c9, c10, c11, none] ∧ TrAt H SD WD (closeCs (ws.take i) e.id rows) (1 + 3 * j) H' ∧ KpT H8 H' ∧ H' C = some (.lst (ws.map V.str)))
      ⟨_, _, _, rfl, by rw [List.take_zero, close_nil]; exact tr8, KpT.refl, e8⟩ (fun i σ H' _ ⟨_, _, _, _, _, _, h⟩ => .inl (.inl h)) ?_ ?_⟩
    · rintro i y σ H9 hy ⟨c8, c9, c10, rfl, tr9, kt9, hC9⟩
      obtain ⟨w, hw, rfl⟩ := wOf hy
      have hwn : w ∉ ws.take i := nodup_take ndw hw
      have hopw : openNs (closeCs (ws.take i) e.id rows) w = openNs rows w := by rw [open_close, if_neg hwn]
      have hne : openNs (closeCs (ws.take i) e.id rows) w ≠ [] := by
        rw [hopw]
        exact ((hws w).1 (List.mem_of_getElem? hw)).2
      obtain ⟨kvs, lw, ek, hv, hlw0, hlw, wa⟩ := tr9.wai.pop hne
      refine ⟨_, rfl, WD, rfl, .inl ⟨kvs, .inl ek⟩, _, rfl, kvs, Sum.inr w, .ref lw, ek, rfl, hv, ?_⟩
      have nlW : lw ≠ WD := fun y => by rw [y, ek] at hlw; cases hlw
      have nlS : lw ≠ SD := fun y => by rw [y, tr9.src] at hlw; cases hlw
      have nSW9 := tr9.ne
      have kp10 : Kp [] H (upd H9 WD (.dK (dropK kvs (Sum.inr w)))) := Kp.drop ((tr9.kp.mono (by simp)).trans (Kp.put (ex := [WD]) (by simp))) hW0
      have src10 : (upd H9 WD (.dK (dropK kvs (Sum.inr w)))) SD = some (.dT ((setN w e.id [] (closeCs (ws.take i) e.id rows)).map rowKV)) := by
        rw [upd_ne nSW9, set_nil]
        exact tr9.src
      have hl10 : (upd H9 WD (.dK (dropK kvs (Sum.inr w)))) lw = some (.lst ((openNs (closeCs (ws.take i) e.id rows) w).map V.str)) := by rw [upd_ne nlW]; exact hlw
      have hC10 : (upd H9 WD (.dK (dropK kvs (Sum.inr w)))) C = some (.lst (ws.map V.str)) := by rw [upd_ne nCW]; exact hC9
      have kt10 : KpT H8 (upd H9 WD (.dK (dropK kvs (Sum.inr w)))) := kt9.trans (KpT.put ek (fun _ q => by cases q))
      generalize upd H9 WD (.dK (dropK kvs (Sum.inr w))) = H10 at wa kp10 src10 hl10 hC10 kt10 ⊢
      have hkeys : ((closeCs (ws.take i) e.id rows).map keyR) = rows.map keyR := keys_close _ _ _
      have hset := set_open ndk (ws.take i) w e.id hwn
      have hrl9 : (closeCs (ws.take i) e.id rows).length = rows.length := by unfold closeCs; exact List.length_map ..
      have hmemo : ∀ nm ∈ openNs (closeCs (ws.take i) e.id rows) w, (nm, w) ∈ (closeCs (ws.take i) e.id rows).map keyR := fun nm hn => List.mem_map.mpr ⟨_, mem_open.1 hn, rfl⟩
      have hopc : ∀ cc, (if cc = w then [] else openNs (closeCs (ws.take i) e.id rows) cc) = openNs (closeCs (ws.take (i + 1)) e.id rows) cc := fun cc => by
        rw [List.take_add_one, hw, open_close, open_close]
        by_cases h1 : cc = w
        · rw [if_pos h1, if_pos (by rw [h1]; simp)]
        · rw [if_neg h1]
          by_cases h2 : cc ∈ ws.take i
          · rw [if_pos h2, if_pos (List.mem_append_left _ h2)]
          · rw [if_neg h2, if_neg (fun y => (List.mem_append.mp y).elim h2 fun y2 => h1 (by simpa using y2))]
      generalize hnames : openNs (closeCs (ws.take i) e.id rows) w = names at hl10 hset hmemo
      generalize hrw : closeCs (ws.take i) e.id rows = rw9 at src10 hkeys hset hrl9 hmemo
      refine ⟨_, rfl, lw, rfl, ⟨_, .inl (.inl hl10)⟩, for_list (K := K) (a := lw) (xs := names.map V.str) (fun i' σ H' => ∃ c10 : Option V, σ = [some (.ref a), some (.ref t), some (.ref SD), some (.ref WD), some x, some (.str z), some (.str c), some (.ref C), some (.str w), some (.ref lw), c10, c11, none] ∧ Kp [] H H' ∧ H' SD = some (.dT ((setN w e.id (names.take i') rw9).map rowKV)) ∧ WaitAt H WD (fun cc => if cc = w then [] else openNs (closeCs (ws.take i) e.id rows) cc) (1 + 3 * j) H' ∧ H' lw = some (.lst (names.map V.str)) ∧ H' C = some (.lst (ws.map V.str)) ∧ KpT H8 H')
        ⟨_, rfl, kp10, by rw [List.take_zero]; exact src10, by rw [hrw]; rw [hrw] at wa; exact wa, hl10, hC10, kt10⟩ (fun i' σ H' _ ⟨_, _, _, _, _, h, _⟩ => .inl (.inl h)) ?_ ?_⟩
      · rintro i' y σ H11 hy ⟨c10', rfl, kp11, src11, wa11, hl11, hC11, kt11⟩
        obtain ⟨nm, hnm', rfl⟩ : ∃ nm, names[i']? = some nm ∧ y = .str nm := by
          rw [List.getElem?_map] at hy
          cases hi : names[i']? with
          | none => rw [hi] at hy; cases hy
          | some cc => rw [hi] at hy; exact ⟨cc, rfl, (Option.some.inj hy).symm⟩
        have re11 : Rp ex H11 e.data x := Rp.keep (kp11.mono (by simp)) _ _ rd
        refine ⟨_, rfl, c_of (ent_ix re11 ed1 hd1 rfl fun vi ri => ?_)⟩
        obtain rfl : vi = .str e.id := ri
        refine ⟨_, rfl, _, rfl, _, rfl, (by show 2 ≤ sizeLine; decide), fun T nT => ?_⟩
        have nST2 : SD ≠ T := fun y => by rw [y, nT] at src11; cases src11
        have kT : Kp [] H11 (upd H11 T (.tup [.str nm, .str w])) := Kp.laid nT
        have hS : (upd H11 T (.tup [.str nm, .str w])) SD = some (.dT ((setN w e.id (names.take i') rw9).map rowKV)) := kT _ _ (by simp) src11
        have hlen2 : ((setN w e.id (names.take i') rw9).map rowKV).length < sizeLine := by
          rw [List.length_map]
          unfold setN
          rw [List.length_map, hrl9]
          omega
        have hkey : (nm, w) ∈ (setN w e.id (names.take i') rw9).map keyR := by
          rw [keys_set]
          exact hmemo nm (List.mem_of_getElem? hnm')
        refine ⟨SD, _, rfl, DPut.t (k := [Sum.inr nm, Sum.inr w]) hS upd_same hlen2, ?_⟩
        have hput := put_row (id := e.id) hkey
        rw [set_more] at hput
        have htk : names.take i' ++ [nm] = names.take (i' + 1) := by rw [List.take_add_one, hnm']; rfl
        rw [htk] at hput
        have kpS : Kp [SD] (upd H11 T (.tup [.str nm, .str w])) (upd (upd H11 T (.tup [.str nm, .str w])) SD (.dT (putK ((setN w e.id (names.take i') rw9).map rowKV) [Sum.inr nm, Sum.inr w] (.str e.id)))) := Kp.put (by simp)
        refine ⟨_, rfl, Kp.drop (((kp11.trans kT).mono (by simp)).trans kpS) nSD, by rw [upd_same, hput], (wa11.keep kT).off kpS hS, ?_, ?_, ?_⟩
        · exact kpS _ _ (by simpa using nlS) (kT _ _ (by simp) hl11)
        · exact kpS _ _ (by simpa using nCS) (kT _ _ (by simp) hC11)
        · exact (kt11.trans (KpT.of kT)).trans (KpT.put hS (fun _ q => by cases q))
      · rintro σ H11 ⟨c10', rfl, kp11, src11, wa11, hl11, hC11, kt11⟩
        rw [List.length_map, List.take_length, hset] at src11
        have htw : ws.take i ++ [w] = ws.take (i + 1) := by rw [List.take_add_one, hw]; rfl
        rw [htw] at src11
        exact ⟨_, _, _, rfl, ⟨kp11, src11, wa11.same hopc (Nat.le_refl _)⟩, kt11, hC11⟩
    · rintro σ H9 ⟨c8, c9, c10, rfl, tr9, kt9, hC9⟩
      rw [List.length_map, List.take_length] at tr9
      refine ⟨_, rfl, !(ws.map V.str).isEmpty, .inl ⟨_, .inl (.inl hC9), rfl⟩, ?_⟩
      by_cases hw0 : ws = []
      · rw [if_pos hw0] at hback
        rw [hw0]
        refine iteF ⟨_, _, _, _, _, _, rfl, ?_, kt8.trans kt9⟩
        rw [hback]
        rw [hw0, close_nil] at tr9
        exact ⟨tr9.kp, tr9.src, tr9.wai.same (fun _ => rfl) (by omega)⟩
      · rw [if_neg hw0] at hback
        have hemp : (!(ws.map V.str).isEmpty) = true := by
          cases ws with
          | nil => exact absurd rfl hw0
          | cons _ _ => rfl
        rw [hemp]
        have re9 : Rp ex H9 e.data x := Rp.keep (tr9.kp.mono (by simp)) _ _ rd
        refine iteT ⟨_, rfl, c_of (ent_ix re9 ed1 hd2 rfl fun u ru => ?_)⟩
        obtain ⟨ra, cs, rfl, nra, hra, hcs⟩ := ru
        obtain rfl := strs_of hcs
        have hrs3 := oke.rs.2
        have hknew : ∀ r ∈ closeCs ws e.id rows, r.1 ≠ e.id := fun r hr2 => by
          obtain ⟨r0, h0, rfl⟩ := List.mem_map.mp hr2
          have h3 : (keyR (closeP ws e.id r0)).1 = (keyR r0).1 := by rw [closeP_key]
          intro y
          exact hnm r0 h0 (h3.symm.trans y)
        refine ⟨ra, rfl, ⟨_, .inl (.inl hra)⟩, for_tup (K := K) (a := ra) (xs := e.rs.map V.str) (fun i σ H' => ∃ c11 : Option V, σ = [some (.ref a), some (.ref t), some (.ref SD), some (.ref WD), some x, some (.str z), some (.str c), some (.ref C), c8, c9, c10, c11, none] ∧ TrAt H SD WD (closeCs ws e.id rows ++ (e.rs.take i).map fun cc => (e.id, cc, none)) (1 + 3 * j + i) H' ∧ KpT H9 H')
          ⟨_, rfl, by rw [List.take_zero, List.map_nil, List.append_nil]; exact tr9, KpT.refl⟩ (fun i σ H' _ ⟨_, _, _, kt⟩ => .inl (.inl (kt _ _ hra))) ?_ ?_⟩
        · rintro i y σ H10 hy ⟨c11', rfl, tr10, kt10⟩
          obtain ⟨rd_, hrd, rfl⟩ : ∃ nm, e.rs[i]? = some nm ∧ y = .str nm := by
            rw [List.getElem?_map] at hy
            cases hi : e.rs[i]? with
            | none => rw [hi] at hy; cases hy
            | some cc => rw [hi] at hy; exact ⟨cc, rfl, (Option.some.inj hy).symm⟩
          have hin : i < e.rs.length := (List.getElem?_eq_some_iff.mp hrd).1
          have re10 : Rp ex H10 e.data x := Rp.keep (tr10.kp.mono (by simp)) _ _ rd
          have hkey : (e.id, rd_) ∉ (closeCs ws e.id rows ++ (e.rs.take i).map fun cc => (e.id, cc, none)).map keyR := fun y => by
            obtain ⟨r, hr2, hk2⟩ := List.mem_map.mp y
            rcases List.mem_append.mp hr2 with y1 | y1
            · exact hknew r y1 (congrArg Prod.fst hk2)
            · obtain ⟨cc, hcc, rfl⟩ := List.mem_map.mp y1
              have : cc = rd_ := congrArg Prod.snd hk2
              rw [this] at hcc
              exact nodup_take oke.rs.1 hrd hcc
          have hlen2 : ((closeCs ws e.id rows ++ (e.rs.take i).map fun cc => (e.id, cc, none)).map rowKV).length < sizeLine := by
            rw [List.length_map, List.length_append, List.length_map, List.length_take]
            unfold closeCs
            rw [List.length_map]
            omega
          have hnext : (closeCs ws e.id rows ++ (e.rs.take i).map fun cc => (e.id, cc, none)) ++ [(e.id, rd_, none)] = closeCs ws e.id rows ++ (e.rs.take (i + 1)).map fun cc => (e.id, cc, none) := by
            rw [List.take_add_one, hrd, List.map_append, List.append_assoc]
            rfl
          have hop := open_snoc (closeCs ws e.id rows ++ (e.rs.take i).map fun cc => (e.id, cc, none)) e.id rd_
          rw [hnext] at hop
          generalize hr10 : (closeCs ws e.id rows ++ (e.rs.take i).map fun cc => (e.id, cc, none)) = rows10 at tr10 hkey hlen2 hnext hop
          refine ⟨_, rfl, _, rfl, c_of (ent_ix re10 ed1 hd1 rfl fun vi ri => ?_)⟩
          obtain rfl : vi = .str e.id := ri
          refine ⟨_, rfl, (by show 2 ≤ sizeLine; decide), fun T nT => ?_⟩
          have src10 := tr10.src
          have nST2 : SD ≠ T := fun y => by rw [y, nT] at src10; cases src10
          have kT : Kp [] H10 (upd H10 T (.tup [.str e.id, .str rd_])) := Kp.laid nT
          have hS : (upd H10 T (.tup [.str e.id, .str rd_])) SD = some (.dT (rows10.map rowKV)) := kT _ _ (by simp) src10
          refine ⟨SD, _, rfl, DPut.t (k := [Sum.inr e.id, Sum.inr rd_]) hS upd_same hlen2, ?_⟩
          have kpS : Kp [SD] (upd H10 T (.tup [.str e.id, .str rd_])) (upd (upd H10 T (.tup [.str e.id, .str rd_])) SD (.dT (putK (rows10.map rowKV) [Sum.inr e.id, Sum.inr rd_] .non))) := Kp.put (by simp)
          have hput := put_new hkey
          rw [hnext] at hput
          have kp11 : Kp [] H _ := Kp.drop (((tr10.kp.trans kT).mono (by simp)).trans kpS) nSD
          have wa11 := (tr10.wai.keep kT).off kpS hS
          have src11 : (upd (upd H10 T (.tup [.str e.id, .str rd_])) SD (.dT (putK (rows10.map rowKV) [Sum.inr e.id, Sum.inr rd_] .non))) SD = some (.dT ((closeCs ws e.id rows ++ (e.rs.take (i + 1)).map fun cc => (e.id, cc, none)).map rowKV)) := by rw [upd_same, hput]
          have kt11 : KpT H9 (upd (upd H10 T (.tup [.str e.id, .str rd_])) SD (.dT (putK (rows10.map rowKV) [Sum.inr e.id, Sum.inr rd_] .non))) := (kt10.trans (KpT.of kT)).trans (KpT.put hS (fun _ q => by cases q))
          generalize upd (upd H10 T (.tup [.str e.id, .str rd_])) SD (.dT (putK (rows10.map rowKV) [Sum.inr e.id, Sum.inr rd_] .non)) = H11 at kp11 wa11 src11 kt11 ⊢
          obtain ⟨kvs, ek, lk, _⟩ := id wa11.at_
          refine ⟨_, rfl, WD, rfl, .inl ⟨kvs, .inl ek⟩, _, rfl, (by show 0 ≤ sizeLine; decide), fun L nL => ⟨kvs, Sum.inr rd_, ?_⟩⟩
          have nLW : WD ≠ L := fun y => by rw [y, nL] at ek; cases ek
          have nLS : SD ≠ L := fun y => by rw [y, nL] at src11; cases src11
          have kL : Kp [] H11 (upd H11 L (.lst [])) := Kp.laid nL
          have wa12 := wa11.keep kL
          have ek12 := kL _ _ (by simp) ek
          have kp12 := kp11.trans kL
          have src12 := kL _ _ (by simp) src11
          have kt12 := kt11.trans (KpT.of kL)
          have hL12 : (upd H11 L (.lst [])) L = some (.lst []) := upd_same
          have hL0 : H L = none := kp_none kp11 nL
          generalize upd H11 L (.lst []) = H12 at wa12 ek12 kp12 src12 kt12 hL12 ⊢
          have re12 : Rp ex H12 e.data x := Rp.keep (kp12.mono (by simp)) _ _ rd
          refine ⟨ek12, rfl, by omega, fun v hv => ?_, fun hv => ?_⟩
          · obtain ⟨l2, rfl, hl20, hl2, wa13⟩ := wa12.more ek12 hv e.id
            refine ⟨.inl ⟨rfl, _, SqL.of hl2⟩, _, rfl, c_of (ent_ix re12 ed1 hd1 rfl fun vi ri => ?_)⟩
            obtain rfl : vi = .str e.id := ri
            have hsmall : ((openNs rows10 rd_).map V.str).length < sizeLine := by
              have h1 : (openNs rows10 rd_).length ≤ rows10.length := by
                unfold openNs
                rw [List.length_map]
                exact List.length_filter_le _ _
              rw [List.length_map] at hlen2 ⊢
              omega
            have nl2S : l2 ≠ SD := fun y => by rw [y, src12] at hl2; cases hl2
            refine ⟨l2, _, _, rfl, rfl, hl2, hsmall, _, rfl, ⟨Kp.drop ((kp12.mono (by simp)).trans (Kp.put (ex := [l2]) (by simp))) hl20, by rw [upd_ne nl2S.symm]; exact src12, wa13.same (fun cc => (hop cc).symm) (by omega)⟩, kt12.trans (KpT.put hl2 (fun _ q => by cases q))⟩
          · have wa13 := wa12.first ek12 hv hL12 hL0 e.id
            have nSW12 : SD ≠ WD := fun y => by rw [y, ek12] at src12; cases src12
            have hLW : (upd H12 WD (.dK (putK kvs (Sum.inr rd_) (.ref L)))) L = some (.lst []) := by rw [upd_ne nLW.symm]; exact hL12
            have kpW : Kp [WD] H12 (upd H12 WD (.dK (putK kvs (Sum.inr rd_) (.ref L)))) := Kp.put (by simp)
            have kp13 : Kp [] H (upd H12 WD (.dK (putK kvs (Sum.inr rd_) (.ref L)))) := Kp.drop ((kp12.mono (by simp)).trans kpW) hW0
            have src13 := kpW _ _ (by simpa using nSW12) src12
            have kt13 : KpT H9 (upd H12 WD (.dK (putK kvs (Sum.inr rd_) (.ref L)))) := kt12.trans (KpT.put ek12 (fun _ q => by cases q))
            refine ⟨.inl ⟨rfl, _, SqL.of hLW⟩, _, rfl, c_of (ent_ix (Rp.keep (kp13.mono (by simp)) _ _ rd) ed1 hd1 rfl fun vi ri => ?_)⟩
            obtain rfl : vi = .str e.id := ri
            refine ⟨L, _, _, rfl, rfl, hLW, (by show 0 < sizeLine; decide), _, rfl, ⟨Kp.drop ((kp13.mono (by simp)).trans (Kp.put (ex := [L]) (by simp))) hL0, by rw [upd_ne nLS]; exact src13, wa13.same (fun cc => (hop cc).symm) (by omega)⟩, kt13.trans (KpT.put hLW (fun _ q => by cases q))⟩
        · rintro σ H10 ⟨c11', rfl, tr10, kt10⟩
          rw [List.length_map, List.take_length, ← hback] at tr10
          exact ⟨_, _, _, _, _, _, rfl, ⟨tr10.kp, tr10.src, tr10.wai.same (fun _ => rfl) (by omega)⟩, (kt8.trans kt9).trans kt10⟩
  · have ej : j = ys.length := by omega
    refine .inl ⟨ge, ?_⟩
    rw [ej, ← hfl, Nat.sub_self, List.drop_zero] at tr5
    have hrn : (backL fs [(z, c, none)]).length ≤ 3001 := by
      have := back_len (row := (z, c, none)) (l := fs) fun u hu => (okf u hu).rs.2
      omega
    generalize backL fs [(z, c, none)] = rows at tr5 hrn q
    refine ⟨SD, _, tr5.src, trivial, fun od => ⟨_, rfl, SD, od, _, rfl, upd_same, fun C nC => ?_⟩⟩
    have kF : Kp [SD] H5 (upd H5 SD (.frz od (.dT (rows.map rowKV)))) := Kp.put (by simp)
    have kpF : Kp [] H (upd H5 SD (.frz od (.dT (rows.map rowKV)))) := Kp.drop ((tr5.kp.mono (by simp)).trans kF) nSD
    have hF : (upd H5 SD (.frz od (.dT (rows.map rowKV)))) SD = some (.frz od (.dT (rows.map rowKV))) := upd_same
    obtain ⟨HF, eF⟩ : ∃ HF, upd H5 SD (.frz od (.dT (rows.map rowKV))) = HF := ⟨_, rfl⟩
    rw [eF] at kF kpF hF nC
    rw [eF]
    have nCS : C ≠ SD := fun y => by rw [y, hF] at nC; cases nC
    have lvF := lv.kp0 kpF
    have hC0 : H C = none := kp_none kpF nC
    have nCex : C ∉ ex := lvF.fresh nC
    refine lc_inv (J := ItT SD od (rows.map rowKV)) rows.length (fun i H' => Kp [C] HF H' ∧ ∃ acc : List V, H' C = some (.lst acc) ∧ acc.length = i ∧ RpAll (C :: SD :: ex) H' ((rows.take i).map rowD) acc) ⟨Kp.laid nC, [], upd_same, rfl, rfl⟩ ?_ (fun i H' hi ⟨k, _⟩ => ⟨k _ _ (by simpa using nCS.symm) hF, by rw [List.length_map]; exact hi⟩) ?_
    case refine_2 =>
      rintro i H6 x H7 hi ⟨k6, acc, hC6, hacc, hr6⟩ ⟨T, qa, kk, v, hkv, rfl, nT, hq, rfl⟩
      obtain ⟨r, hr1, hr2⟩ : ∃ r, rows[i]? = some r ∧ rowKV r = (kk, v) := by
        rw [List.getElem?_map] at hkv
        cases h : rows[i]? with
        | none => rw [h] at hkv; cases hkv
        | some r => rw [h] at hkv; exact ⟨r, rfl, Option.some.inj hkv⟩
      obtain rfl : [Sum.inr r.1, Sum.inr r.2.1] = kk := congrArg Prod.fst hr2
      obtain rfl : optV r.2.2 = v := congrArg Prod.snd hr2
      have kT : Kp [] H6 (upd H6 T (.tup [.ref qa, optV r.2.2])) := Kp.laid nT
      refine ⟨T, _, rfl, .inl (.inl upd_same), rfl, _, _, rfl, qa, _, rfl, .inl (.inl (kT _ _ (by simp) hq)), rfl, _, _, rfl, _, _, rfl, rfl, _, _, rfl, rfl, rfl, yes_on ?_⟩
      refine ⟨_, rfl, _, rfl, _, rfl, (by show 3 ≤ sizeLine; decide), fun p np => ?_⟩
      have kp : Kp [] (upd H6 T (.tup [.ref qa, optV r.2.2])) (upd (upd H6 T (.tup [.ref qa, optV r.2.2])) p (.tup [.str r.1, .str r.2.1, optV r.2.2])) := Kp.laid np
      have lvC : Live (C :: SD :: ex) H6 := fun b hb y => by
        rcases List.mem_cons.mp hb with h | h
        · rw [h, hC6] at y; cases y
        rcases List.mem_cons.mp h with h | h
        · rw [h, k6 _ _ (by simpa using nCS.symm) hF] at y; cases y
        · exact (lv.kp0 (Kp.drop ((kpF.mono (by simp)).trans k6) hC0)) b h y
      have npC : p ∉ C :: SD :: ex := (lvC.kp0 kT).fresh np
      have rnew : Rp (C :: SD :: ex) (upd (upd H6 T (.tup [.ref qa, optV r.2.2])) p (.tup [.str r.1, .str r.2.1, optV r.2.2])) (rowD r) (.ref p) := rp_new npC np ⟨_, _, rfl, rfl, _, _, rfl, rfl, RpAll.one (by cases r.2.2 <;> rfl)⟩
      have hC8 := (kT.trans kp) _ _ (by simp) hC6
      have kC : Kp (C :: SD :: ex) (upd (upd H6 T (.tup [.ref qa, optV r.2.2])) p (.tup [.str r.1, .str r.2.1, optV r.2.2])) (upd (upd (upd H6 T (.tup [.ref qa, optV r.2.2])) p (.tup [.str r.1, .str r.2.1, optV r.2.2])) C (.lst (acc ++ [.ref p]))) := Kp.put (by simp)
      refine ⟨acc, hC8, by omega, (k6.trans ((kT.trans kp).mono (by simp))).trans (Kp.put (by simp)), acc ++ [.ref p], upd_same, by rw [List.length_append, hacc]; rfl, ?_⟩
      rw [List.take_add_one, hr1, List.map_append]
      exact RpAll.app (RpAll.keep (((kT.trans kp).mono (by simp)).trans kC) _ _ hr6) (RpAll.one (Rp.keep kC _ _ rnew))
    case refine_1 =>
      rintro H6 ⟨k6, acc, hC6, hacc, hr6⟩
      have hF6 := k6 _ _ (by simpa using nCS.symm) hF
      refine ⟨⟨hF6, by rw [List.length_map]; exact Nat.le_refl _⟩, hF6, ?_⟩
      rw [List.take_length] at hr6
      have kpe : Kp [] H (upd H6 SD (.dT (rows.map rowKV))) := Kp.drop (((Kp.drop ((kpF.mono (by simp)).trans k6) hC0).mono (by simp)).trans (Kp.put (ex := [SD]) (by simp))) nSD
      have kSD : Kp (C :: SD :: ex) H6 (upd H6 SD (.dT (rows.map rowKV))) := Kp.put (by simp)
      exact q C _ kpe hC0 ⟨C, acc, rfl, nCex, by rw [upd_ne nCS]; exact hC6, RpAll.less (by intro b hb; simp [hb]) _ _ (RpAll.keep kSD _ _ hr6)⟩
end
end NV
/-! CallQ -/
set_option Elab.async false
set_option linter.all false
set_option maxRecDepth 100000
set_option maxHeartbeats 600000
/-! a def of the top called in several ways: by keywords in any order, by keywords alone, without its keyword-only parameter -/
namespace NV
open PySem PySem.Spec PyProof.Rows L2
/-- a def of the top, however it is called -/
structure FnF (K : PySem.W.Frag) (mg : Str → Option Value) (nm : Str) (st : Stmt) : Type where
  f : Addr
  fd : FuncData
  F : Fun K nm nm st f fd
  m : mg nm = some (.ref f)
/-- what stands for the parameters that lack -/
structure Lack (K : PySem.W.Frag) (fd : FuncData) (ps : List Str) (dvs : List V) : Prop where
  ex : ∃ ds, Vals dvs ds ∧ Binds K fd ps ds
section
variable {K : PySem.W.Frag} {x qual : Str} {st : Stmt} {f : Addr} {fd : FuncData} {ps ks : List Str} {n : Nat} {g : List Value → List Value → List Value} {gV : List V → List V → List V}
theorem kbn_mk (F : Fun K x qual st f fd) (hb : ∀ (kV doc pm : Value) (an : Option Addr) (cdv ct : Value) (us ws : List Value), us.length = n → ws.length = ks.length → bindArgs (PySem.W.fnOf x qual (defArgs st) (defBody st) (defScope st) .none kV doc pm an cdv ct) ⟨us, ks.zip ws⟩ = pure (ps.zip (g us ws)))
    (hr : ∀ {vs : List V} {us : List Value} {zs : List V} {ws : List Value}, Vals vs us → Vals zs ws → Vals (gV vs zs) (g us ws)) : KBn K fd ps n ks g gV := by
  obtain ⟨oc, od, kV, doc, pm, an, cdv, ct, osl, rfl, lk, hcd⟩ := F.ex
  exact ⟨fun s us ws _ h1 h2 => .of_eq (hb kV doc pm an cdv ct us ws h1 h2), hr⟩
theorem binds_mk (F : Fun K x qual st f fd) (hb : ∀ (kV doc pm : Value) (an : Option Addr) (cdv ct : Value) (us : List Value), us.length = ps.length → bindArgs (PySem.W.fnOf x qual (defArgs st) (defBody st) (defScope st) .none kV doc pm an cdv ct) ⟨us, []⟩ = pure (ps.zip us)) : Binds K fd ps [] := F.binds hb
end
/-- a def with one keyword-only parameter q whose value, where it lacks, is told by φ -/
def AtQ (K : PySem.W.Frag) (nm : Str) (st : Stmt) (q : Str) (φ : Value → Prop) : Prop := ∃ (f D : Addr) (oc : Value) (od : Option Addr) (doc pm : Value) (an : Option Addr) (cd ct : Value) (sl : Array (Option Value)) (u : Value),
  PySem.W.nsIn K mainGlobals nm = some (some (.ref f)) ∧ K.lookup f = some ⟨oc, od, .func (PySem.W.fnOf nm nm (defArgs st) (defBody st) (defScope st) .none (.ref D) doc pm an cd ct), sl⟩ ∧ PySem.W.codeIn K cd nm = true ∧ PySem.W.keepIn K (.ref f) = true ∧ PySem.W.nsIn K D q = some (some u) ∧ φ u
/-- the empty tuple of the written part -/
def IsTup0 (K : PySem.W.Frag) (u : Value) : Prop := ∃ (T : Addr) (dT : Option Addr) (n : Nat) (sT : Array (Option Value)), u = .ref T ∧ K.lookup T = some ⟨.type "tuple", dT, .seq #[] n, sT⟩
def IsIntV (i : Int) (u : Value) : Prop := ∃ t, u = .int i t
section
variable {K : PySem.W.Frag} {h : Heap} {mg : Str → Option Value} {nm : Str} {st : Stmt} {q : Str} {φ : Value → Prop}
theorem atQ_mk {f D : Addr} {oc : Value} {od : Option Addr} {doc pm : Value} {an : Option Addr} {cd ct : Value} {sl : Array (Option Value)} {u : Value} (a : PySem.W.nsIn K mainGlobals nm = some (some (.ref f))) (l : K.lookup f = some ⟨oc, od, .func (PySem.W.fnOf nm nm (defArgs st) (defBody st) (defScope st) .none (.ref D) doc pm an cd ct), sl⟩)
    (c : PySem.W.codeIn K cd nm = true) (k : PySem.W.keepIn K (.ref f) = true) (d : PySem.W.nsIn K D q = some (some u)) (p : φ u) : AtQ K nm st q φ := ⟨f, D, oc, od, doc, pm, an, cd, ct, sl, u, a, l, c, k, d, p⟩
theorem tup0_mk {T : Addr} {dT : Option Addr} {n : Nat} {sT : Array (Option Value)} (l : K.lookup T = some ⟨.type "tuple", dT, .seq #[] n, sT⟩) : IsTup0 K (.ref T) := ⟨T, dT, n, sT, rfl, l⟩
theorem intV_mk {i : Int} {t : Tok} : IsIntV i (.int i t) := ⟨t, rfl⟩
/-- the def, and how it is called without q -/
theorem fnq_at {ps : List Str} (n : Nat) (X : K.In h) (G : h.Ns mainGlobals mg) (a : AtQ K nm st q φ) (hn : n + 1 = ps.length)
    (hb : ∀ (D : Addr) (doc pm : Value) (an : Option Addr) (cdv ct : Value) (us ks : List Value), us.length = n → ks.length = 1 → KwChain D ([q].zip ks) (bindArgs (PySem.W.fnOf nm nm (defArgs st) (defBody st) (defScope st) .none (.ref D) doc pm an cdv ct) ⟨us, []⟩) (ps.zip (us ++ ks))) :
    ∃ D : FnF K mg nm st, ∃ u, φ u ∧ ∀ v, RelV v u → Lack K D.fd ps [v] := by
  obtain ⟨f, D, oc, od, doc, pm, an, cd, ct, sl, u, a1, l1, c1, k1, d1, p1⟩ := a
  refine ⟨⟨f, _, fun_mk (st := st) l1 c1 k1, PySem.W.mg_of X G a1⟩, u, p1, fun v rv => ?_⟩
  have F : FunD K nm nm (defArgs st) (defBody st) (defScope st) [] [(q, v)] f (PySem.W.fnOf nm nm (defArgs st) (defBody st) (defScope st) .none (.ref D) doc pm an cd ct) :=
    ⟨⟨oc, od, .none, .ref D, doc, pm, an, cd, ct, sl, rfl, l1, c1, .inl ⟨rfl, rfl⟩, .inr ⟨D, rfl, fun p hp => ⟨u, by rw [List.mem_singleton.mp hp]; exact ⟨d1, rv⟩⟩⟩⟩, k1⟩
  obtain ⟨ds, hv, b⟩ := F.binds0 (ps := ps) n (by simp) (by simpa using hn) fun D doc pm an cdv ct us ks h1 h2 => hb D doc pm an cdv ct us ks h1 (by simpa using h2)
  exact ⟨ds, hv, b⟩
end
section
variable {X : Cx} {nm : Str} {st : Stmt} {ps ks : List Str} {sp : Sp} {e : Expr} {es : List Expr} {kws : List Keyword} {t tk : TA} {p pos : Pos} {j k n : Nat} {g : List Value → List Value → List Value} {gV : List V → List V → List V}
/-- f(e, .., k = v, ..) -/
theorem pe_q (D : FnF X.K X.mg nm st) (B : KBn X.K D.fd ps n ks g gV) (G : FnOk X.prog X.w X.K X.mg X.base CX0 j D.f D.fd ps sp) (hr : Room k X.A) (ha : PA X (e :: es) t) (hkw : PK X kws tk)
    (hk : j ≤ k := by decide) (hg : Gl X nm := by rfl) (hall : ((backToKw pos (keywordEach kws X.env)).all (·.1.isSome)) = true := by rfl) (hks : (backToKw pos (keywordEach kws X.env)).filterMap (·.1) = ks := by rfl) (hdb : (nm == ("__debug__" : Str)) = false := by decide)
    (he : starEach (e :: es) X.env = (false, eval e X.env) :: starEach es X.env := by rfl) (hpl : (((backTo pos (starEach (e :: es) X.env)).any (·.1)) || ((backToKw pos (keywordEach kws X.env)).any (·.1.isNone))) = false := by rfl) :
    PE X (.Call (.Name nm p) (e :: es) kws pos) (tCallN n ks.length sp gV (fun _ _ _ => False) t tk) := pe_callN G (hr.mono hk) hg D.m D.F.kp B pass0 ha hkw hall hks hdb he hpl
/-- f(k = v, ..) -/
def tCallW (m : Nat) (sp : Sp) (gV : List V → List V → List V) (tk : TA) : TE := fun σ H Q => tk σ H fun zs H2 => zs.length = m ∧ sp (gV [] zs) H2 Q (fun _ _ _ => False)
theorem pe_q0 (D : FnF X.K X.mg nm st) (B : KBn X.K D.fd ps 0 ks g gV) (G : FnOk X.prog X.w X.K X.mg X.base CX0 j D.f D.fd ps sp) (hr : Room k X.A) (hkw : PK X kws tk)
    (hk : j ≤ k := by decide) (hg : Gl X nm := by rfl) (hall : ((backToKw pos (keywordEach kws X.env)).all (·.1.isSome)) = true := by rfl) (hks : (backToKw pos (keywordEach kws X.env)).filterMap (·.1) = ks := by rfl) (hdb : (nm == ("__debug__" : Str)) = false := by decide)
    (hpl : (((backTo pos (starEach [] X.env)).any (·.1)) || ((backToKw pos (keywordEach kws X.env)).any (·.1.isNone))) = false := by rfl) :
    PE X (.Call (.Name nm p) [] kws pos) (tCallW ks.length sp gV tk) := by
  refine ⟨fun pins s σ H Q I h => ?_⟩
  refine wpAny_Call_Name_kw (ld_glob I hg D.m ?_ hdb)
  refine PySem.W.callWith_KW0 (h₀ := X.base) I.ok.mod.kin D.F.kp hall (thn (hkw.run pos pins s σ H _ I h) fun ws s2 ⟨zs, H2, I2, rz, l2, q2⟩ => ⟨I2.kIn, ?_⟩) hpl
  rw [hks]
  exact run_fnN (vs := []) G (hr.mono hk) B pass0 I2 .nil rz rfl l2 q2
/-- f(e, ..) with all that is wanted -/
theorem pe_qn (D : FnF X.K X.mg nm st) (B : Binds X.K D.fd ps []) (G : FnOk X.prog X.w X.K X.mg X.base CX0 j D.f D.fd ps sp) (hr : Room k X.A) (ha : PA X (e :: es) t)
    (hk : j ≤ k := by decide) (hg : Gl X nm := by rfl) (hdb : (nm == ("__debug__" : Str)) = false := by decide) (he : starEach (e :: es) X.env = (false, eval e X.env) :: starEach es X.env := by rfl) (hpl : (backTo pos (starEach es X.env)).any (·.1) = false := by rfl) :
    PE X (.Call (.Name nm p) (e :: es) [] pos) (tCall sp [] (fun _ _ _ => False) t) := pe_call G (hr.mono hk) hg D.m D.F.kp B .nil pass0 ha hdb he hpl
/-- f(e, ..), some lacking -/
theorem pe_ql {dvs : List V} (D : FnF X.K X.mg nm st) (B : Lack X.K D.fd ps dvs) (G : FnOk X.prog X.w X.K X.mg X.base CX0 j D.f D.fd ps sp) (hr : Room k X.A) (ha : PA X (e :: es) t)
    (hk : j ≤ k := by decide) (hg : Gl X nm := by rfl) (hdb : (nm == ("__debug__" : Str)) = false := by decide) (he : starEach (e :: es) X.env = (false, eval e X.env) :: starEach es X.env := by rfl) (hpl : (backTo pos (starEach es X.env)).any (·.1) = false := by rfl) :
    PE X (.Call (.Name nm p) (e :: es) [] pos) (tCall sp dvs (fun _ _ _ => False) t) := by
  obtain ⟨ds, vs, b⟩ := B.ex
  exact pe_call G (hr.mono hk) hg D.m D.F.kp b vs pass0 ha hdb he hpl
end
end NV
/-! V8a -/
set_option Elab.async false
set_option linter.all false
set_option maxRecDepth 100000
set_option maxHeartbeats 1000000
/-! the package's dependencies, asked rightly; who has its source here -/
namespace NV
open PySem PySem.Spec PyProof.Rows L2
open C8 (pss_cut pe_gc)
abbrev sDependencies : Stmt := topS 39
theorem scDependencies : FnScope ["log", "target", "retracted"] ["log", "target", "retracted"] (defScope sDependencies) := ⟨rfl, rfl, rfl, by decide +kernel, rfl, by decide +kernel, by decide +kernel⟩
/-- some row has its source here -/
def srcIn (rows : List Row) (z : Str) : Bool := rows.any fun r => decide (r.2.2 = some z)
def writesIn (es : List Ent) (rows : List Row) : List Str := (es.filter fun e => srcIn rows e.id).map Ent.id
theorem id_inj {es : List Ent} (nd : (es.map Ent.id).Nodup) {e u : Ent} (he : e ∈ es) (hu : u ∈ es) (h : e.id = u.id) : e = u := by
  induction es with
  | nil => cases he
  | cons x l ih =>
    rw [List.map_cons, List.nodup_cons] at nd
    rcases List.mem_cons.mp he with a | a
    · rcases List.mem_cons.mp hu with b | b
      · rw [a, b]
      · exact absurd (by rw [← a, h]; exact List.mem_map.mpr ⟨u, b, rfl⟩) nd.1
    · rcases List.mem_cons.mp hu with b | b
      · exact absurd (by rw [← b, ← h]; exact List.mem_map.mpr ⟨e, a, rfl⟩) nd.1
      · exact ih nd.2 a b
/-- the reader's place in the log without the retracted writes -/
theorem pos_live {es : List Ent} {gone : List Str} {z : Str} {k : Nat} (h : PosOf es z k) (hz : z ∉ gone) : PosOf (liveB es gone) z (liveB (es.take k) gone).length ∧ (liveB es gone).take (liveB (es.take k) gone).length = liveB (es.take k) gone := by
  have split : liveB es gone = liveB (es.take k) gone ++ liveB (es.drop k) gone := by
    unfold liveB
    rw [← List.filter_append, List.take_append_drop]
  have htake : (liveB es gone).take (liveB (es.take k) gone).length = liveB (es.take k) gone := by
    rw [split, List.take_left]
  refine ⟨?_, htake⟩
  rcases h with ⟨hz0, rfl⟩ | ⟨hz0, ⟨e, he, hid⟩, no⟩
  · left
    refine ⟨hz0, ?_⟩
    rw [List.take_length]
  · right
    refine ⟨hz0, ⟨e, ?_, hid⟩, fun j u hj hu => ?_⟩
    · rw [split, List.getElem?_append_right (Nat.le_refl _), Nat.sub_self]
      have hd : es.drop k = e :: es.drop (k + 1) := by
        obtain ⟨hk, h⟩ := List.getElem?_eq_some_iff.mp he
        rw [List.drop_eq_getElem_cons hk, h]
      rw [hd]
      unfold liveB
      rw [List.filter_cons, if_pos (by rw [hid]; simpa using hz)]
      rfl
    · rw [split, List.getElem?_append_left hj] at hu
      have hm := List.mem_of_getElem? hu
      unfold liveB at hm
      have hm := (List.mem_filter.mp hm).1
      obtain ⟨i, hi⟩ := List.mem_iff_getElem?.mp hm
      have hik : i < k := by
        have := (List.getElem?_eq_some_iff.mp hi).1
        rw [List.length_take] at this
        omega
      rw [List.getElem?_take_of_lt hik] at hi
      exact no i u hik hi
/-- a target's reader is not retracted -/
theorem target_gone {es : List Ent} {gone : List Str} {z c : Str} {k : Nat} (t : TargetOk es z c k) (g : GoneOk es gone) : z ∉ gone := fun h => by
  obtain ⟨hid, hall⟩ := g z h
  rcases t.pos with ⟨hz, _⟩ | ⟨_, ⟨e, he, hez⟩, _⟩
  · rw [hz] at hid
    exact absurd hid (by decide)
  · have := (hall e (List.mem_of_getElem? he) hez).1
    have q := t.query
    unfold writeAt at q
    rw [he] at q
    have q : e.isW = false := q
    rw [this] at q
    cases q
theorem liveB_ok {es : List Ent} {gone : List Str} (h : ∀ e ∈ es, e.Ok) : ∀ e ∈ liveB es gone, e.Ok := fun e he => h e (List.mem_filter.mp he).1
theorem liveB_nd {es : List Ent} {gone : List Str} (h : (es.map Ent.id).Nodup) : ((liveB es gone).map Ent.id).Nodup := h.sublist (List.filter_sublist.map _)
theorem liveB_len {es : List Ent} {gone : List Str} : (liveB es gone).length ≤ es.length := List.length_filter_le _ _
/-- what the target's rows are -/
def depRows (es : List Ent) (gone : List Str) (z c : Str) (k : Nat) : List Row := rowsOf (es.map (bl gone)) (z, c, k)
def spDeps (K : PySem.W.Frag) : Sp := fun vs H Q _ => ∃ (v : V) (t g : Addr) (es : List Ent) (gone : List Str) (b : Bool) (z c : Str) (k : Nat) (ex : List Addr), vs = [v, .ref t, .ref g] ∧ Rp ex H (logD es) v ∧ LogOk es ∧ es.length ≤ 60 ∧ H t = some (.tup [.str z, .str c]) ∧ TargetOk es z c k ∧ Names K b H g gone ∧ GoneOk es gone ∧ gone.length ≤ 1000 ∧ Live ex H ∧
  ∀ p H', Kp [] H H' → H p = none → Rp ex H' (.list ((depRows es gone z c k).map rowD)) (.ref p) → Q (.ref p) H'
section
variable {P : Program} {w : World} {K : PySem.W.Frag} {mg : Str → Option Value} {base : Heap}
theorem ok_deps (DDependencies : FnF K mg "dependencies" sDependencies) (DCheckLog : Fn K mg "check_log" sCheckLog ["log"]) (DCheckRetracted : Fn K mg "check_retracted" sCheckRetracted ["log", "retracted"]) (DCheckTarget : Fn K mg "check_target" sCheckTarget ["log", "target"]) (DTriplesOf : Fn K mg "triples_of" sTriplesOf ["live", "target"]) (DWithoutRetracted : Fn K mg "without_retracted" sWithoutRetracted ["log", "retracted"])
    (GCheckLog : FnOk P w K mg base CX0 7 DCheckLog.f DCheckLog.fd ["log"] spCheck) (GCheckRetracted : FnOk P w K mg base CX0 2 DCheckRetracted.f DCheckRetracted.fd ["log", "retracted"] (spRetr K)) (GCheckTarget : FnOk P w K mg base CX0 5 DCheckTarget.f DCheckTarget.fd ["log", "target"] spTarget)
    (GTriplesOf : FnOk P w K mg base CX0 2 DTriplesOf.f DTriplesOf.fd ["live", "target"] spTriples) (GWithoutRetracted : FnOk P w K mg base CX0 1 DWithoutRetracted.f DWithoutRetracted.fd ["log", "retracted"] (spWithout K)) :
    FnOk P w K mg base CX0 8 DDependencies.f DDependencies.fd ["log", "target", "retracted"] (spDeps K) := by
  refine DDependencies.F.ok scDependencies (fun vs H Q E h => ?_) (fun cdv A outer s H vs Q E hr h => ?_)
  · obtain ⟨v, t, g, es, gone, b, z, c, k, ex, rfl, _⟩ := h
    rfl
  obtain ⟨v, t, g, es, gone, b, z, c, k, ex, rfl, rv, ok, h60, ht, tk, ng, gok, hg, lv, q⟩ := h
  refine ⟨_, pss_cons (ps_expr (pe_fn DCheckLog GCheckLog hr (pa_cons (pv 0) pa_nil)))
      (pss_cons (ps_expr (pe_fn DCheckRetracted GCheckRetracted hr (pa_cons (pv 0) (pa_cons (pv 2) pa_nil))))
      (pss_cons (ps_expr (pe_fn DCheckTarget GCheckTarget hr (pa_cons (pv 0) (pa_cons (pv 1) pa_nil))))
      (pss_one (ps_ret (pe_fn DTriplesOf GTriplesOf hr (pa_cons (pe_fn DWithoutRetracted GWithoutRetracted hr (pa_cons (pv 0) (pa_cons (pv 2) pa_nil))) (pa_cons (pv 1) pa_nil))))))), ?_⟩
  refine ⟨_, rfl, v, es, ex, rfl, rv, ok, h60, fun H1 k1 => ?_⟩
  have up : ∀ {H' : Hp}, Kp [] H H' → Rp ex H' (logD es) v := fun k => Rp.keep (k.mono (by simp)) _ _ rv
  refine ⟨_, rfl, _, rfl, v, g, es, gone, b, ex, rfl, up k1, ng.keep0 k1, by omega, gok, fun H2 k2 => ?_⟩
  have k12 := k1.trans k2
  refine ⟨_, rfl, _, rfl, v, t, es, ex, z, c, k, rfl, up k12, k12 _ _ (by simp) ht, tk, fun H3 k3 => ?_⟩
  have k13 := k12.trans k3
  refine ⟨_, rfl, _, rfl, v, g, es, gone, b, ex, rfl, up k13, ng.keep0 k13, by omega, hg, lv.kp0 k13, fun p H4 k4 r4 => ?_⟩
  have k14 := k13.trans k4
  obtain ⟨hp, htake⟩ := pos_live tk.pos (target_gone tk gok)
  refine ⟨_, rfl, .ref p, t, liveB es gone, ex, z, c, _, rfl, r4, k14 _ _ (by simp) ht, liveB_ok ok.ok, liveB_nd ok.nd, Nat.le_trans liveB_len (by omega), hp, lv.kp0 k14, fun p2 H5 k5 n5 r5 => ?_⟩
  rw [htake] at r5
  rw [show backL (liveB (es.take k) gone) [(z, c, none)] = depRows es gone z c k from rows_live (q := (z, c, k)) tk.pos.le] at r5
  exact q p2 H5 (k14.trans k5) (kp_none k14 n5) r5
end
end NV
/-! DictU -/
set_option Elab.async false
set_option linter.all false
set_option maxRecDepth 100000
set_option maxHeartbeats 600000
/-! a dict copied, a dict joined into another -/
namespace NV
open PySem PySem.Spec PyProof.Rows
open L2
def rDictD : List V → Hp → VK → Prop := fun xs H Q => ∃ (a : Addr) (kvs : List (L2.Key × V)), xs = [.ref a] ∧ H a = some (.dK kvs) ∧ ∀ p, H p = none → Q (.ref p) (upd H p (.dK kvs))
def rUpd : V → List V → Hp → VK → Prop := fun x xs H Q => ∃ (a b : Addr) (kvs more : List (L2.Key × V)), x = .ref a ∧ xs = [.ref b] ∧ a ≠ b ∧ H a = some (.dK kvs) ∧ H b = some (.dK more) ∧ kvs.length + more.length ≤ sizeLine ∧ Q .non (upd H a (.dK (mergeK kvs more)))
section
variable {X : Cx}
theorem call_dictD : CallR X (.type "dict") rDictD := by
  intro pins s σ H xs us Q I r q
  obtain ⟨a, kvs, rfl, e, q⟩ := q
  obtain ⟨u, rfl, rx⟩ := vals1 r
  obtain rfl : u = Value.ref a := rx
  exact d_copyOf I (.inl e) fun p s' np J => ⟨.ref p, _, J, rfl, q p np⟩
theorem mt_update : MtR X "dict.update" rUpd := by
  intro pins s σ H x xs v us Q I rx rxs h
  obtain ⟨a, b, kvs, more, rfl, rfl, ne, ha, hb, hz, q⟩ := h
  obtain rfl : v = Value.ref a := rx
  obtain ⟨u, rfl, ru⟩ := vals1 rxs
  obtain rfl : u = Value.ref b := ru
  obtain ⟨za, hda, va, ra, da⟩ := dk_of I.hok ha
  obtain ⟨zb, hdb, vb, rb, db⟩ := dk_of I.hok hb
  have la : kvs.length = va.length := Paired.length ra
  have lb : more.length = vb.length := Paired.length rb
  refine call_meetsIn PySem.F.slot_dict_update da.typeIs PySem.F.entry_dict_update (PySem.F.args_dict_update_2 _ _) (meets_dict_update (mixKind X.prog X.w) a b ne hdb) ⟨va, vb, da, db, by omega, fun h' d' _ hs => ?_⟩
  have there : ∃ q, h'.get? a = some q := let ⟨q, _, _, hq, _⟩ := d'; ⟨q, hq⟩
  have hl : (mergeK kvs more).length ≤ sizeLine := Nat.le_trans (length_mergeK more kvs) hz
  exact ⟨.non, _, d_write (t' := s.toks) I (by rw [ha]; exact True.intro) hs there (dk_new hl hda (rb.merge ra) d'), rfl, q⟩
end
end NV
/-! U1 -/
set_option Elab.async false
set_option linter.all false
set_option maxRecDepth 100000
set_option maxHeartbeats 1000000
/-! the law's _law_snapshots: the last writers, ahead of each entry and at the end -/
namespace NV
open PySem PySem.Spec PyProof.Rows L2
open C8 (pss_cut pe_gc)
abbrev sLawSnapshots : Stmt := topS 64
theorem scLawSnapshots : FnScope ["entries", "gone", "last", "found", "at", "entry", "cell"] ["entries", "gone"] (defScope sLawSnapshots) := ⟨rfl, rfl, rfl, by decide +kernel, rfl, by decide +kernel, by decide +kernel⟩
/-- a dict from cells to positions -/
def SnapD (d : Addr) (f : Str → Option Nat) (n : Nat) (H : Hp) : Prop := ∃ kvs : List (L2.Key × V), H d = some (.dK kvs) ∧ kvs.length ≤ n ∧ ∀ c : Str, valV kvs (Sum.inr c : L2.Key) = (f c).map fun j => V.int (j : Nat)
theorem SnapD.keep {d : Addr} {f : Str → Option Nat} {n : Nat} {H H' : Hp} (h : SnapD d f n H) (k : Kp [] H H') : SnapD d f n H' := by
  obtain ⟨kvs, e, r⟩ := h
  exact ⟨kvs, k _ _ (by simp) e, r⟩
theorem SnapD.off {d b : Addr} {f : Str → Option Nat} {n : Nat} {H H' : Hp} (h : SnapD d f n H) (k : Kp [b] H H') (hb : d ≠ b) : SnapD d f n H' := by
  obtain ⟨kvs, e, r⟩ := h
  exact ⟨kvs, k _ _ (by simpa using hb) e, r⟩
theorem SnapD.get {d : Addr} {f : Str → Option Nat} {n : Nat} {H : Hp} (h : SnapD d f n H) (c : Str) : IsD H d ∧ DGet H d (.str c) ((f c).map fun j => V.int (j : Nat)) := by
  obtain ⟨kvs, e, _, q⟩ := h
  refine ⟨.inl ⟨kvs, .inl e⟩, ?_⟩
  rw [← q c]
  exact DGet.k (k := Sum.inr c) e
def natV : Option Nat → V
  | none => .non
  | some j => .int (j : Nat)
theorem natV_get (o : Option Nat) : ((o.map fun j => V.int (j : Nat)).getD .non) = natV o := by cases o <;> rfl
/-- the dicts' list: one ahead of each entry, one at the end -/
structure SnapsAt (p : Addr) (es : List Ent) (H : Hp) : Prop where
  at_ : ∃ ds : List Addr, H p = some (.lst (ds.map V.ref)) ∧ ds.length = es.length + 1 ∧ ∀ i d, ds[i]? = some d → SnapD d (lastIx es i) 400 H
theorem SnapsAt.keep {p : Addr} {es : List Ent} {H H' : Hp} (h : SnapsAt p es H) (k : Kp [] H H') : SnapsAt p es H' := by
  obtain ⟨ds, e, l, q⟩ := h
  exact ⟨ds, k _ _ (by simp) e, l, fun i d hi => (q i d hi).keep k⟩
theorem SnapsAt.ix {p : Addr} {es : List Ent} {H : Hp} (h : SnapsAt p es H) {i : Nat} (hi : i ≤ es.length) : ∃ (ds : List Addr) (d : Addr), H p = some (.lst (ds.map V.ref)) ∧ (ds.map V.ref)[i]? = some (.ref d) ∧ SnapD d (lastIx es i) 400 H := by
  obtain ⟨ds, e, l, q⟩ := h
  have hd : i < ds.length := by omega
  exact ⟨ds, ds[i], e, by rw [List.getElem?_map, List.getElem?_eq_getElem hd]; rfl, q i _ (List.getElem?_eq_getElem hd)⟩
/-- an item of a list, by its place -/
theorem ix_lst {K : PySem.W.Frag} {H : Hp} {p : Addr} {xs : List V} {x : V} {j : Nat} {i : Int} {Q : VK} (hp : H p = some (.lst xs)) (hx : xs[j]? = some x) (ei : i = (j : Int)) (q : Q x H) : rIxL K (.ref p) (.int i) H Q := by
  subst ei
  exact ⟨p, xs, _, x, rfl, rfl, .inl (.inl hp), atI_nat hx, q⟩
theorem in_lst {K : PySem.W.Frag} {H : Hp} {a : Addr} {zs : List Str} {c : Str} {Q : VK} (neg : Bool) (ha : H a = some (.lst (zs.map V.str))) (q : Q (.bl (if neg then decide (c ∉ zs) else decide (c ∈ zs))) H) : rIn K neg (.str c) (.ref a) H Q := by
  refine ⟨a, _, rfl, .inl (.inl (.inl ha)), rfl, ?_, ?_⟩
  · rw [List.all_map]
    exact List.all_eq_true.mpr fun x _ => rfl
  · have e : inV (.str c) (zs.map V.str) = decide (c ∈ zs) := by
      unfold inV
      rw [List.any_map, Bool.eq_iff_iff, List.any_eq_true, decide_eq_true_iff]
      constructor
      · rintro ⟨y, hy, h⟩
        have h : (y == c) = true := h
        rw [← eq_of_beq h]
        exact hy
      · intro h
        exact ⟨c, h, by show (c == c) = true; exact beq_self_eq_true c⟩
    rw [e]
    cases neg with
    | false => exact q
    | true =>
      have : (!decide (c ∈ zs)) = decide (c ∉ zs) := by by_cases h : c ∈ zs <;> simp [h]
      rw [if_pos rfl, this]
      exact q
theorem mergeK_nodup : ∀ (l kvs : List (L2.Key × V)), (kvs.map (·.1) ++ l.map (·.1)).Nodup → mergeK kvs l = kvs ++ l
  | [], kvs, _ => by
    rw [List.append_nil]
    rfl
  | p :: l, kvs, h => by
    show mergeK (putK kvs p.1 p.2) l = _
    have hn : p.1 ∉ kvs.map (·.1) := fun z => by
      rw [List.nodup_append] at h
      exact h.2.2 _ z _ List.mem_cons_self rfl
    have nk : valV kvs p.1 = none := by
      cases hv : valV kvs p.1 with
      | none => rfl
      | some v =>
        have ha : (kvs.any fun kv => decide (kv.1 = p.1)) = true := by rw [valV_any, hv]; rfl
        obtain ⟨x, hx, hd⟩ := List.any_eq_true.mp ha
        exact absurd (List.mem_map.mpr ⟨x, hx, of_decide_eq_true hd⟩) hn
    rw [putK_new _ nk, mergeK_nodup l _ ?_, List.append_assoc]
    · rfl
    · rw [List.map_append, List.append_assoc]
      exact h
theorem valV_merge (v : V) (k : L2.Key) : ∀ (l kvs : List (L2.Key × V)), (∀ p ∈ l, p.2 = v) → valV (mergeK kvs l) k = if (l.any fun p => decide (p.1 = k)) = true then some v else valV kvs k
  | [], kvs, _ => rfl
  | p :: l, kvs, h => by
    show valV (mergeK (putK kvs p.1 p.2) l) k = _
    rw [valV_merge v k l _ fun q hq => h q (List.mem_cons_of_mem _ hq), valV_put, h p List.mem_cons_self, List.any_cons]
    by_cases h1 : (l.any fun p => decide (p.1 = k)) = true
    · rw [if_pos h1, h1, Bool.or_true, if_pos rfl]
    · rw [if_neg h1]
      by_cases h2 : k = p.1
      · rw [if_pos h2, decide_eq_true h2.symm, Bool.true_or, if_pos rfl]
      · rw [if_neg h2, decide_eq_false (fun z => h2 z.symm), Bool.false_or, if_neg h1]
theorem lastIx_succ (es : List Ent) (i : Nat) (c : Str) : lastIx es (i + 1) c = if wr es i c then some i else lastIx es i c := rfl
theorem wr_bl {es : List Ent} {gone : List Str} {i : Nat} {e : Ent} (he : es[i]? = some e) (c : Str) : wr (es.map (bl gone)) i c = (decide (e.id ∉ gone) && decide (c ∈ e.ws)) := by
  unfold wr
  rw [List.getElem?_map, he]
  show decide (c ∈ (bl gone e).ws) = _
  by_cases hg : e.id ∈ gone
  · have hb : bl gone e = .wr e.id [] [] none := if_pos hg
    rw [hb, decide_eq_false (show ¬ e.id ∉ gone from fun z => z hg)]
    rfl
  · have hb : bl gone e = e := if_neg hg
    rw [hb, decide_eq_true (show e.id ∉ gone from hg)]
    rfl
def spSnaps : Sp := fun vs H Q _ => ∃ (v : V) (g : Addr) (es : List Ent) (gone : List Str) (ex : List Addr), vs = [v, .ref g] ∧ Rp ex H (logD es) v ∧ (∀ e ∈ es, e.Ok) ∧ es.length ≤ 100 ∧ H g = some (.lst (gone.map V.str)) ∧ gone.length ≤ 1000 ∧ Live ex H ∧ ∀ p H', Kp [] H H' → SnapsAt p (es.map (bl gone)) H' → Q (.ref p) H'
section
variable {P : Program} {w : World} {K : PySem.W.Frag} {mg : Str → Option Value} {base : Heap}
theorem ok_snaps (DLawSnapshots : Fn K mg "_law_snapshots" sLawSnapshots ["entries", "gone"]) (b_enumerate : mg "enumerate" = none) (b_dict : mg "dict" = none) : FnOk P w K mg base CX0 1 DLawSnapshots.f DLawSnapshots.fd ["entries", "gone"] spSnaps := by
  refine DLawSnapshots.F.ok scLawSnapshots (fun vs H Q E h => ?_) (fun cdv A outer s H vs Q E hr h => ?_)
  · obtain ⟨v, g, es, gone, ex, rfl, _⟩ := h
    rfl
  obtain ⟨v, g, es, gone, ex, rfl, rv, ok, h100, hg, hgl, lv, q⟩ := h
  have line : (100000 : Nat) < sizeLine := by decide
  refine ⟨_, pss_cons (ps_par (i := 2) (j := 3) rfl scLawSnapshots.nd rfl rfl (by decide) rfl rfl (pa_cons pe_dnewK (pa_cons (pe_lst pa_nil) pa_nil)) rfl)
      (pss_cons (ps_for PassesOwn.never rfl (pi_enumT K (by rfl) b_enumerate (pa_cons (pv 0) pa_nil)) (pg_tupE K (by rfl) (pgs_cons (pg_name (i := 4) scLawSnapshots.nd rfl (.inr rfl)) (pgs_cons (pg_name (i := 5) scLawSnapshots.nd rfl (.inl rfl)) pgs_nil)))
      (pss_cons (ps_expr (bmE K PySem.F.plainAttrs_list PySem.F.slot_list_append PySem.F.type_list_append mt_append (pv 3) (pa_cons (pe_callTy call_dictD (by rfl) b_dict (by decide +kernel) (pa_cons (pv 2) pa_nil)) pa_nil)))
      (pss_one (ps_if (PW.pt (pw_and (pt_cmpR op_eq (pe_ix (ixtE K) (pv 5) pe_int (fun _ _ => rfl)) pe_str (nomark _)) (pw_and1 (pt_cmpR (notInE K) (pe_ix (ixtE K) (pv 5) pe_int (fun _ _ => rfl)) (pv 1) (by rfl)))))
      (pss_one (ps_expr (bmE K PySem.F.plainAttrs_dict PySem.F.slot_dict_update PySem.F.type_dict_update mt_update (pv 2) (pa_cons (pe_callTy (call_dictP (by rfl)) (by rfl) b_dict (by decide +kernel) (pa_cons (pe_lc (own := [("cell", 6)]) (g := gName 6) (tt := tYes) (by rfl) scLawSnapshots.nd (piTupE K (pe_ix (ixtE K) (pv 5) pe_int (fun _ _ => rfl))) (blkOk_by (N := ["entries", "gone", "last", "found", "at", "entry", "cell"]) (sc := defScope sLawSnapshots) (by decide +kernel)) (fun _ _ _ _ _ => (pg_name (i := 6) scLawSnapshots.nd rfl (.inl rfl))) (fun _ _ _ _ _ => pts_nil) (fun _ _ _ _ _ => (pe_tup (pa_cons (pv 6) (pa_cons (pv 4) pa_nil))))) pa_nil)) pa_nil))))
      pss_nil))))
      (pss_one (ps_ret (pe_op op_cat (pv 3) (pe_lst (pa_cons (pv 2) pa_nil)))))), ?_⟩
  obtain ⟨a, xs, rfl, na, ha, hx⟩ := rv
  have hl : es.length = xs.length := by
    have := hx.length
    rwa [List.length_map] at this
  intro LD nLD
  refine ⟨(by show 0 ≤ sizeLine; decide), fun FP nFP => ⟨_, _, rfl, ?_⟩⟩
  have nLF : LD ≠ FP := fun z => by rw [← z, upd_same] at nFP; cases nFP
  have k0 : Kp [] H (upd (upd H LD (.dK [])) FP (.lst [])) := (Kp.laid nLD).trans (Kp.laid nFP)
  have hLD0 : (upd (upd H LD (.dK [])) FP (.lst [])) LD = some (.dK []) := by rw [upd_ne nLF]; exact upd_same
  have hFP0 : (upd (upd H LD (.dK [])) FP (.lst [])) FP = some (.lst []) := upd_same
  have nFP0 : H FP = none := kp_none (Kp.laid nLD) nFP
  obtain ⟨H0, e0⟩ : ∃ H0, upd (upd H LD (.dK [])) FP (.lst []) = H0 := ⟨_, rfl⟩
  rw [e0] at k0 hLD0 hFP0
  rw [e0]
  have ha0 := k0 _ _ (by simp) ha
  have hg0 := k0 _ _ (by simp) hg
  have naL : a ≠ LD := fun z => by rw [z, hLD0] at ha0; cases ha0
  have naF : a ≠ FP := fun z => by rw [z, hFP0] at ha0; cases ha0
  have ngL : g ≠ LD := fun z => by rw [z, hLD0] at hg0; cases hg0
  have ngF : g ≠ FP := fun z => by rw [z, nFP0] at hg; cases hg
  have back : ∀ {H' : Hp}, Kp [LD, FP] H0 H' → Kp [] H H' := fun k => Kp.drop (Kp.drop ((k0.mono (by simp)).trans k) nLD) nFP0
  have atA : ∀ {H' : Hp}, Kp [LD, FP] H0 H' → H' a = some (.tup xs) := fun k => k _ _ (by simp [naL, naF]) ha0
  have atG : ∀ {H' : Hp}, Kp [LD, FP] H0 H' → H' g = some (.lst (gone.map V.str)) := fun k => k _ _ (by simp [ngL, ngF]) hg0
  generalize hes : es.map (bl gone) = es' at q
  have hel : es'.length = es.length := by rw [← hes, List.length_map]
  refine ⟨_, rfl, a, xs, rfl, .inl (.inl ha0), for_enumT (K := K) (a := a) (xs := xs) (fun i σ H' => ∃ c4 c5 : Option V, σ = [some (.ref a), some (.ref g), some (.ref LD), some (.ref FP), c4, c5, none] ∧ Kp [LD, FP] H0 H' ∧ SnapD LD (lastIx es' i) (3 * i) H' ∧ ∃ ds : List Addr, H' FP = some (.lst (ds.map V.ref)) ∧ ds.length = i ∧ (∀ d ∈ ds, d ≠ LD ∧ d ≠ FP) ∧ ∀ m d, ds[m]? = some d → SnapD d (lastIx es' m) 400 H')
    ⟨none, none, rfl, Kp.refl, ⟨[], hLD0, Nat.le_refl _, fun c => rfl⟩, [], hFP0, rfl, (fun d hd => by cases hd), fun m d hm => by cases hm⟩ (fun i σ H' ⟨_, _, _, k, _⟩ => .inl (.inl (atA k))) ?_ ?_⟩
  · rintro i x T σ H1 hxi ⟨c4, c5, rfl, k1, snap, ds, hds, dl, dne, dall⟩ nT
    have hi : i < es.length := by
      have := (List.getElem?_eq_some_iff.mp hxi).1
      omega
    have kT : Kp [] H1 (upd H1 T (.tup [.int (i : Nat), x])) := Kp.laid nT
    have hT : (upd H1 T (.tup [.int (i : Nat), x])) T = some (.tup [.int (i : Nat), x]) := upd_same
    obtain ⟨e, he⟩ : ∃ e, es[i]? = some e := ⟨_, List.getElem?_eq_getElem hi⟩
    obtain ⟨x', hx', rx⟩ := RpAll.at hx (show (es.map Ent.data)[i]? = some e.data by rw [List.getElem?_map, he]; rfl)
    rw [hxi] at hx'
    obtain rfl := Option.some.inj hx'
    have oke := ok e (List.mem_of_getElem? he)
    refine ⟨T, _, rfl, .inl (.inl hT), rfl, _, _, rfl, _, _, rfl, rfl, ?_⟩
    generalize upd H1 T (.tup [.int (i : Nat), x]) = H2 at kT hT ⊢
    have k2 : Kp [LD, FP] H0 H2 := k1.trans (kT.mono (by simp))
    have snap2 := snap.keep kT
    have hds2 := kT _ _ (by simp) hds
    have dall2 : ∀ m d, ds[m]? = some d → SnapD d (lastIx es' m) 400 H2 := fun m d hm => (dall m d hm).keep kT
    obtain ⟨kvs, ek, lk, hk⟩ := id snap2
    -- the copy
    refine ⟨_, rfl, .inl ⟨rfl, _, SqL.of hds2⟩, _, rfl, LD, kvs, rfl, ek, fun D nD => ?_⟩
    have nDL : D ≠ LD := fun z => by rw [z, ek] at nD; cases nD
    have nDF : D ≠ FP := fun z => by rw [z, hds2] at nD; cases nD
    have kD : Kp [] H2 (upd H2 D (.dK kvs)) := Kp.laid nD
    have hdsD := kD _ _ (by simp) hds2
    have snapD : SnapD D (lastIx es' i) 400 (upd H2 D (.dK kvs)) := ⟨kvs, upd_same, by omega, hk⟩
    have snap3 := snap2.keep kD
    have dall3 : ∀ m d, ds[m]? = some d → SnapD d (lastIx es' m) 400 (upd H2 D (.dK kvs)) := fun m d hm => (dall2 m d hm).keep kD
    refine ⟨FP, _, _, rfl, rfl, hdsD, by rw [List.length_map]; omega, ?_⟩
    have kF : Kp [FP] (upd H2 D (.dK kvs)) (upd (upd H2 D (.dK kvs)) FP (.lst (ds.map V.ref ++ [.ref D]))) := Kp.put (by simp)
    have hFP4 : (upd (upd H2 D (.dK kvs)) FP (.lst (ds.map V.ref ++ [.ref D]))) FP = some (.lst ((ds ++ [D]).map V.ref)) := by rw [upd_same, List.map_append]; rfl
    have snap4 := snap3.off kF nLF
    have all4 : ∀ m d, (ds ++ [D])[m]? = some d → SnapD d (lastIx es' m) 400 (upd (upd H2 D (.dK kvs)) FP (.lst (ds.map V.ref ++ [.ref D]))) := fun m d hm => by
      rcases Nat.lt_or_ge m ds.length with h | h
      · rw [List.getElem?_append_left h] at hm
        exact (dall3 m d hm).off kF (dne d (List.mem_of_getElem? hm)).2
      · rw [List.getElem?_append_right h] at hm
        have hm0 : m - ds.length = 0 := by
          cases hq : m - ds.length with
          | zero => rfl
          | succ n => rw [hq] at hm; cases hm
        rw [hm0] at hm
        obtain rfl : D = d := Option.some.inj hm
        rw [show m = i by omega]
        exact snapD.off kF nDF
    have ne4 : ∀ d ∈ ds ++ [D], d ≠ LD ∧ d ≠ FP := fun d hd => by
      rcases List.mem_append.mp hd with h | h
      · exact dne d h
      · rw [List.mem_singleton.mp h]; exact ⟨nDL, nDF⟩
    have k4 : Kp [LD, FP] H0 (upd (upd H2 D (.dK kvs)) FP (.lst (ds.map V.ref ++ [.ref D]))) := (k2.trans (kD.mono (by simp))).trans (kF.mono (by simp))
    have len4 : (ds ++ [D]).length = i + 1 := by rw [List.length_append, dl]; rfl
    generalize upd (upd H2 D (.dK kvs)) FP (.lst (ds.map V.ref ++ [.ref D])) = H4 at hFP4 snap4 all4 k4 ⊢
    generalize ds ++ [D] = ds4 at hFP4 all4 ne4 len4
    have re4 : Rp ex H4 e.data x := Rp.keep ((back k4).mono (by simp)) _ _ rx
    obtain ⟨d0, ed0, hd0⟩ := ent_kind e
    obtain ⟨d1, ed1, hd1, _⟩ := ent_reads e
    refine ⟨_, rfl, c_of (ent_ix re4 ed0 hd0 rfl fun vk rk => ?_)⟩
    obtain rfl : vk = .str (if e.isW then "write" else "query") := rk
    refine ⟨rfl, _, rfl, ?_⟩
    rw [kind_w]
    have hwr := fun c => wr_bl (gone := gone) he c
    rw [hes] at hwr
    have same : (∀ c, wr es' i c = false) → SnapD LD (lastIx es' (i + 1)) (3 * (i + 1)) H4 := fun h => by
      obtain ⟨kv, e1, l1, q1⟩ := snap4
      exact ⟨kv, e1, by omega, fun c => by rw [q1 c, lastIx_succ, h c, if_neg Bool.false_ne_true]⟩
    cases hw : e.isW with
    | false =>
      refine iteF ⟨_, _, rfl, k4, same fun c => ?_, ds4, hFP4, len4, ne4, all4⟩
      rw [hwr c]
      cases e with
      | wr _ _ _ _ => cases hw
      | qu id cs =>
        show (_ && decide (c ∈ ([] : List Str))) = false
        simp
    | true =>
      refine iteT ⟨_, rfl, c_of (ent_ix re4 ed1 hd1 rfl fun vi ri => ?_)⟩
      obtain rfl : vi = .str e.id := ri
      refine ⟨_, rfl, in_lst true (atG k4) ⟨_, rfl, ?_⟩⟩
      rw [if_pos rfl]
      by_cases hgn : e.id ∈ gone
      · rw [decide_eq_false (show ¬ e.id ∉ gone from fun z => z hgn)]
        refine iteF ⟨_, _, rfl, k4, same fun c => ?_, ds4, hFP4, len4, ne4, all4⟩
        rw [hwr c, decide_eq_false (show ¬ e.id ∉ gone from fun z => z hgn)]
        rfl
      · rw [decide_eq_true (show e.id ∉ gone from hgn)]
        obtain ⟨d3, ed3, hd3, _⟩ := ent_writes hw
        obtain ⟨kv, e1, l1, q1⟩ := id snap4
        refine iteT ⟨_, rfl, .inr (.inr (.inl ⟨rfl, .inl ⟨kv, e1⟩⟩)), _, rfl, c_of (ent_ix re4 ed3 hd3 rfl fun u ru => ?_)⟩
        obtain ⟨wa, cs, rfl, nwa, hwa, hcs⟩ := ru
        obtain rfl := strs_of hcs
        have hw3 := oke.ws
        refine ⟨wa, rfl, ⟨_, .inl (.inl hwa)⟩, fun C nC => ?_⟩
        have nwC : wa ≠ C := fun z => by rw [z, nC] at hwa; cases hwa
        refine lc_inv (J := Itt K wa) e.ws.length (fun m H' => Kp [C] H4 H' ∧ ∃ ps : List Addr, H' C = some (.lst (ps.map V.ref)) ∧ ps.length = m ∧ ∀ (n : Nat) (p : Addr) (c : Str), ps[n]? = some p → e.ws[n]? = some c → H' p = some (.tup [.str c, .int (i : Nat)]) ∧ p ≠ C) ⟨Kp.laid nC, [], upd_same, rfl, fun n p c hn => by cases hn⟩ ?_ (fun m H' hm ⟨k, _⟩ => ⟨_, _, .inl (.inl (k _ _ (by simpa using nwC) hwa)), List.getElem?_eq_getElem (by rw [List.length_map]; exact hm)⟩) ?_
        case refine_2 =>
          rintro m H5 y H6 hm ⟨k5, ps, hC5, hpl, hps⟩ ⟨rfl, hy⟩
          have hym := hy _ (.inl (.inl (k5 _ _ (by simpa using nwC) hwa)))
          obtain ⟨c, hc, rfl⟩ : ∃ c, e.ws[m]? = some c ∧ V.str c = y := by
            rw [List.getElem?_map] at hym
            cases hcm : e.ws[m]? with
            | none => rw [hcm] at hym; cases hym
            | some c => rw [hcm] at hym; exact ⟨c, rfl, Option.some.inj hym⟩
          refine ⟨rfl, yes_on ⟨_, rfl, _, rfl, (by show 2 ≤ sizeLine; decide), fun p np => ?_⟩⟩
          have npC : p ≠ C := fun z => by rw [z, hC5] at np; cases np
          have kp : Kp [] H6 (upd H6 p (.tup [.str c, .int (i : Nat)])) := Kp.laid np
          have kC : Kp [C] (upd H6 p (.tup [.str c, .int (i : Nat)])) (upd (upd H6 p (.tup [.str c, .int (i : Nat)])) C (.lst (ps.map V.ref ++ [.ref p]))) := Kp.put (by simp)
          refine ⟨_, kp _ _ (by simp) hC5, by rw [List.length_map]; omega, (k5.trans (kp.mono (by simp))).trans kC, ps ++ [p], by rw [upd_same, List.map_append]; rfl, by rw [List.length_append, hpl]; rfl, fun n p' c' hn hcn => ?_⟩
          rcases Nat.lt_or_ge n ps.length with h | h
          · rw [List.getElem?_append_left h] at hn
            obtain ⟨h1, h2⟩ := hps n p' c' hn hcn
            exact ⟨kC _ _ (by simpa using h2) (kp _ _ (by simp) h1), h2⟩
          · rw [List.getElem?_append_right h] at hn
            have hn0 : n - ps.length = 0 := by
              cases hq : n - ps.length with
              | zero => rfl
              | succ n => rw [hq] at hn; cases hn
            rw [hn0] at hn
            obtain rfl : p = p' := Option.some.inj hn
            have : n = m := by omega
            rw [this, hc] at hcn
            obtain rfl := Option.some.inj hcn
            exact ⟨kC _ _ (by simpa using npC) upd_same, npC⟩
        case refine_1 =>
          rintro H5 ⟨k5, ps, hC5, hpl, hps⟩
          refine ⟨⟨_, .inl (.inl (k5 _ _ (by simpa using nwC) hwa)), by rw [List.length_map]; exact Nat.le_refl _⟩, ?_⟩
          have k45 : Kp [] H4 H5 := Kp.drop k5 nC
          have paired : ∀ (ps : List Addr) (ws : List Str), ps.length = ws.length → (∀ (n : Nat) (p : Addr) (c : Str), ps[n]? = some p → ws[n]? = some c → H5 p = some (.tup [.str c, .int (i : Nat)])) → Paired (fun p (kv : L2.Key × V) => SqT K H5 p [kV kv.1, kv.2]) ps (ws.map fun c => ((Sum.inr c : L2.Key), V.int (i : Nat))) := by
            intro ps
            induction ps with
            | nil =>
              intro ws hl _
              cases ws with
              | nil => exact .nil
              | cons _ _ => cases hl
            | cons p ps ih =>
              intro ws hl hall
              cases ws with
              | nil => cases hl
              | cons c ws => exact .cons (.inl (.inl (hall 0 p c rfl rfl))) (ih ws (Nat.succ.inj hl) fun n p' c' h1 h2 => hall (n + 1) p' c' h1 h2)
          refine ⟨C, ps, _, rfl, .inl (.inl hC5), paired ps e.ws hpl fun n p c h1 h2 => (hps n p c h1 h2).1, fun M nM => ?_⟩
          have hm : mergeK [] (e.ws.map fun c => ((Sum.inr c : L2.Key), V.int (i : Nat))) = e.ws.map fun c => ((Sum.inr c : L2.Key), V.int (i : Nat)) := by
            rw [mergeK_nodup _ _ ?_]
            · rfl
            · rw [List.map_map]
              exact nodup_mapi (fun a b h => Sum.inr.inj h) hw3.1
          rw [hm]
          have kM : Kp [] H5 (upd H5 M (.dK (e.ws.map fun c => ((Sum.inr c : L2.Key), V.int (i : Nat))))) := Kp.laid nM
          have e5 := k45 _ _ (by simp) e1
          have nLM : LD ≠ M := fun z => by rw [z, nM] at e5; cases e5
          refine ⟨LD, M, kv, _, rfl, rfl, nLM, kM _ _ (by simp) e5, upd_same, by rw [List.length_map]; omega, ?_⟩
          have kL : Kp [LD] (upd H5 M (.dK (e.ws.map fun c => ((Sum.inr c : L2.Key), V.int (i : Nat))))) (upd (upd H5 M (.dK (e.ws.map fun c => ((Sum.inr c : L2.Key), V.int (i : Nat))))) LD (.dK (mergeK kv (e.ws.map fun c => ((Sum.inr c : L2.Key), V.int (i : Nat)))))) := Kp.put (by simp)
          have k46 := k45.trans kM
          refine ⟨_, _, rfl, (k4.trans (k46.mono (by simp))).trans (kL.mono (by simp)), ⟨_, upd_same, ?_, fun c => ?_⟩, ds4, ?_, len4, ne4, fun m d hm => ((all4 m d hm).keep k46).off kL (ne4 d (List.mem_of_getElem? hm)).1⟩
          · have := length_mergeK (e.ws.map fun c => ((Sum.inr c : L2.Key), V.int (i : Nat))) kv
            rw [List.length_map] at this
            omega
          · rw [valV_merge (V.int (i : Nat)) _ _ _ (fun p hp => by obtain ⟨c', _, rfl⟩ := List.mem_map.mp hp; rfl), lastIx_succ, hwr c, decide_eq_true (show e.id ∉ gone from hgn), Bool.true_and]
            have hmem : ((e.ws.map fun c => ((Sum.inr c : L2.Key), V.int (i : Nat))).any fun p => decide (p.1 = Sum.inr c)) = decide (c ∈ e.ws) := by
              rw [Bool.eq_iff_iff, List.any_eq_true, decide_eq_true_iff]
              constructor
              · rintro ⟨p, hp, hd⟩
                obtain ⟨c', h1, rfl⟩ := List.mem_map.mp hp
                rw [← Sum.inr.inj (of_decide_eq_true hd)]
                exact h1
              · intro h
                exact ⟨_, List.mem_map.mpr ⟨c, h, rfl⟩, decide_eq_true rfl⟩
            rw [hmem]
            by_cases hc : c ∈ e.ws
            · rw [decide_eq_true hc, if_pos rfl, if_pos rfl]
              rfl
            · rw [decide_eq_false hc, if_neg Bool.false_ne_true, if_neg Bool.false_ne_true]
              exact q1 c
          · exact kL _ _ (by simpa using nLF.symm) (k46 _ _ (by simp) hFP4)
  · rintro σ H1 ⟨c4, c5, rfl, k1, snap, ds, hds, dl, dne, dall⟩
    refine ⟨_, rfl, _, rfl, (by show 1 ≤ sizeLine; decide), fun L2_ nL => ?_⟩
    have kL : Kp [] H1 (upd H1 L2_ (.lst [.ref LD])) := Kp.laid nL
    refine ⟨FP, L2_, _, _, rfl, rfl, kL _ _ (by simp) hds, upd_same, by rw [List.length_map]; show ds.length + 1 ≤ sizeLine; omega, fun p np => ?_⟩
    have kp := Kp.laid (ex := []) (o := .lst (ds.map V.ref ++ [.ref LD])) np
    refine q p _ ((back k1).trans (kL.trans kp)) ⟨ds ++ [LD], by rw [upd_same, List.map_append]; rfl, by rw [List.length_append, dl, hel, ← hl]; rfl, fun m d hm => ?_⟩
    rcases Nat.lt_or_ge m ds.length with h | h
    · rw [List.getElem?_append_left h] at hm
      exact ((dall m d hm).keep kL).keep kp
    · rw [List.getElem?_append_right h] at hm
      have hm0 : m - ds.length = 0 := by
        cases hq : m - ds.length with
        | zero => rfl
        | succ n => rw [hq] at hm; cases hm
      rw [hm0] at hm
      obtain rfl : LD = d := Option.some.inj hm
      rw [show m = xs.length by omega]
      obtain ⟨kv, e1, l1, q1⟩ := (snap.keep kL).keep kp
      exact ⟨kv, e1, by omega, q1⟩
end
end NV
/-! T5 -/
set_option Elab.async false
set_option linter.all false
set_option maxRecDepth 100000
set_option maxHeartbeats 600000
/-! the positions met, by a closed set; the target's position by a walk -/
namespace NV
open PySem PySem.Spec PyProof.Rows L2
theorem nodup_below {n : Nat} {l : List Nat} (nd : l.Nodup) (h : ∀ x ∈ l, x < n) : l.length ≤ n := by
  have p : l.Perm ((List.range n).filter fun x => decide (x ∈ l)) := by
    rw [List.perm_ext_iff_of_nodup nd (List.nodup_range.filter _)]
    intro x
    rw [List.mem_filter, List.mem_range, decide_eq_true_iff]
    exact ⟨fun z => ⟨h x z, z⟩, fun z => z.2⟩
  rw [p.length_eq]
  have := List.length_filter_le (fun x => decide (x ∈ l)) (List.range n)
  rwa [List.length_range] at this
theorem falls_nodup {l : List Nat} (h : l.Pairwise (· > ·)) : l.Nodup := by
  rw [List.nodup_iff_pairwise_ne]
  exact h.imp fun {a b} z e => by omega
theorem met_closed {es : List Ent} {q : Ask} {ms : List Nat} (nd : ms.Nodup) (hr : ∀ j ∈ ms, Reach es q j) (h0 : ∀ p, lastIx es q.2.2 q.2.1 = some p → p ∈ ms) (h1 : ∀ j ∈ ms, ∀ e, es[j]? = some e → ∀ c ∈ e.rs, ∀ p, lastIx es j c = some p → p ∈ ms) :
    ms.Perm (metL es q q.2.2) := by
  rw [List.perm_ext_iff_of_nodup nd (falls_nodup (met_falls (Nat.le_refl _)))]
  intro p
  rw [met_iff]
  constructor
  · exact hr p
  · intro R
    induction R with
    | base h => exact h0 _ h
    | step _ he hc h ih => exact h1 _ ih _ he _ hc _ h
theorem met_sorted {es : List Ent} {q : Ask} {ms : List Nat} {ys : List Int} (hp : ms.Perm (metL es q q.2.2)) (hy : ys.Perm (ms.map Int.ofNat)) (ha : ys.Pairwise (· ≤ ·)) : ys = (metL es q q.2.2).reverse.map Int.ofNat := by
  refine List.Perm.eq_of_pairwise (le := (· ≤ ·)) (fun a b _ _ h1 h2 => by omega) ha ?_ ?_
  · rw [List.pairwise_map, List.pairwise_reverse]
    exact (met_falls (Nat.le_refl _)).imp fun {a b} z => by
      show (b : Int) ≤ (a : Int)
      omega
  · exact hy.trans ((hp.trans (List.reverse_perm _).symm).map _)
/-- the positions of an id among the first n -/
def posL (es : List Ent) (z : Str) : Nat → List Nat
  | 0 => []
  | n + 1 => if (es.map Ent.id)[n]? = some z then posL es z n ++ [n] else posL es z n
theorem posL_len (es : List Ent) (z : Str) : ∀ n, (posL es z n).length ≤ n
  | 0 => Nat.le_refl _
  | n + 1 => by
    have := posL_len es z n
    unfold posL
    split
    · rw [List.length_append, List.length_singleton]; omega
    · omega
theorem posL_no {es : List Ent} {z : Str} : ∀ {n : Nat}, (∀ j e, j < n → es[j]? = some e → e.id ≠ z) → posL es z n = []
  | 0, _ => rfl
  | n + 1, h => by
    unfold posL
    rw [if_neg, posL_no fun j e hj => h j e (by omega)]
    rw [List.getElem?_map]
    intro he
    cases hx : es[n]? with
    | none => rw [hx] at he; cases he
    | some e =>
      rw [hx] at he
      exact h n e (Nat.lt_succ_self _) hx (Option.some.inj he)
theorem posL_first {es : List Ent} {z : Str} {k : Nat} {e : Ent} (he : es[k]? = some e) (hz : e.id = z) (h : ∀ j e, j < k → es[j]? = some e → e.id ≠ z) : ∀ {n : Nat}, k < n → (posL es z n)[0]? = some k
  | n + 1, hn => by
    unfold posL
    rcases Nat.lt_or_ge k n with lt | ge
    · have ih := posL_first he hz h lt
      split
      · have hl := (List.getElem?_eq_some_iff.mp ih).1
        rw [List.getElem?_append_left hl]
        exact ih
      · exact ih
    · obtain rfl : k = n := by omega
      rw [posL_no h, if_pos]
      · rfl
      · rw [List.getElem?_map, he, ← hz]
        rfl
end NV
/-! U2 -/
set_option Elab.async false
set_option linter.all false
set_option maxRecDepth 100000
set_option maxHeartbeats 1000000
/-! the law's _law_met: the positions of the writes that a target depends on -/
namespace NV
open PySem PySem.Spec PyProof.Rows L2
open C8 (pss_cut pe_gc)
abbrev sLawMet : Stmt := topS 65
theorem scLawMet : FnScope ["entries", "goal", "gone", "start", "waiting", "before", "met", "at", "entry", "cell"] ["entries", "goal", "gone"] (defScope sLawMet) := ⟨rfl, rfl, rfl, by decide +kernel, rfl, by decide +kernel, by decide +kernel⟩
def posV (l : List Nat) : List V := l.map fun j => V.int (j : Nat)
theorem posV_app (a b : List Nat) : posV (a ++ b) = posV a ++ posV b := List.map_append
theorem posV_len (a : List Nat) : (posV a).length = a.length := List.length_map ..
/-- the item met at a position is not retracted -/
theorem wr_live {es : List Ent} {gone : List Str} {i : Nat} {c : Str} (h : wr (es.map (bl gone)) i c = true) : ∃ e, es[i]? = some e ∧ (es.map (bl gone))[i]? = some e := by
  unfold wr at h
  rw [List.getElem?_map] at h
  cases he : es[i]? with
  | none => rw [he] at h; cases h
  | some e =>
    refine ⟨e, rfl, ?_⟩
    rw [List.getElem?_map, he]
    rw [he] at h
    have h : decide (c ∈ (bl gone e).ws) = true := h
    by_cases hg : e.id ∈ gone
    · have hb : bl gone e = .wr e.id [] [] none := if_pos hg
      rw [hb] at h
      cases h
    · exact congrArg some (if_neg hg)
theorem reach_wr {es : List Ent} {q : Ask} {p : Nat} (r : Reach es q p) : ∃ c, wr es p c = true := by
  cases r with
  | base h => exact ⟨_, (lastIx_lt h).2⟩
  | step _ _ _ h => exact ⟨_, (lastIx_lt h).2⟩
/-- the dict of the positions met -/
def metKV (ms : List Nat) : List (L2.Key × V) := ms.map fun j => ((Sum.inl (j : Nat) : L2.Key), V.bl true)
theorem metKV_get (ms : List Nat) (j : Nat) : (valV (metKV ms) (Sum.inl (j : Nat) : L2.Key)).isSome = decide (j ∈ ms) := by
  rw [← valV_any]
  unfold metKV
  rw [List.any_map, Bool.eq_iff_iff, List.any_eq_true, decide_eq_true_iff]
  constructor
  · rintro ⟨x, hx, h⟩
    have h := Sum.inl.inj (of_decide_eq_true h)
    obtain rfl : x = j := Int.ofNat.inj h
    exact hx
  · intro h
    exact ⟨j, h, decide_eq_true rfl⟩
theorem metKV_put {ms : List Nat} {j : Nat} (h : j ∉ ms) : putK (metKV ms) (Sum.inl (j : Nat) : L2.Key) (.bl true) = metKV (ms ++ [j]) := by
  rw [putK_new]
  · unfold metKV
    rw [List.map_append]
    rfl
  · have := metKV_get ms j
    rw [decide_eq_false h] at this
    cases hv : valV (metKV ms) (Sum.inl (j : Nat) : L2.Key) with
    | none => rfl
    | some v => rw [hv] at this; cases this
def spMet : Sp := fun vs H Q _ => ∃ (v : V) (t g : Addr) (es : List Ent) (gone : List Str) (z c : Str) (k : Nat) (ex : List Addr), vs = [v, .ref t, .ref g] ∧ Rp ex H (logD es) v ∧ (∀ e ∈ es, e.Ok) ∧ es.length ≤ 60 ∧ H t = some (.tup [.str z, .str c]) ∧ PosOf es z k ∧ H g = some (.lst (gone.map V.str)) ∧ gone.length ≤ 1000 ∧ Live ex H ∧
  ∀ p H', Kp [] H H' → H p = none → H' p = some (.lst (posV (metL (es.map (bl gone)) (z, c, k) k).reverse)) → Q (.ref p) H'
theorem if_t {A B : Prop} (h : A) : if true = true then A else B := by rw [if_pos rfl]; exact h
theorem if_f {A B : Prop} (h : B) : if false = true then A else B := by rw [if_neg Bool.false_ne_true]; exact h
/-- the state of the walk over those that wait -/
structure MetW (es : List Ent) (q : Ask) (ms : List Nat) (ws : List (Option Nat)) : Prop where
  nd : ms.Nodup
  hm : ∀ j ∈ ms, Reach es q j
  hw : ∀ j, some j ∈ ws → Reach es q j
  base : ∀ p, lastIx es q.2.2 q.2.1 = some p → p ∈ ms ∨ some p ∈ ws
  step : ∀ j ∈ ms, ∀ e, es[j]? = some e → ∀ c ∈ e.rs, ∀ p, lastIx es j c = some p → p ∈ ms ∨ some p ∈ ws
theorem mem_last {l : List (Option Nat)} {y o : Option Nat} (h : l[l.length - 1]? = some y) (hm : o ∈ l) : o ∈ l.dropLast ∨ o = y := by
  cases hl : l.reverse with
  | nil =>
    obtain rfl := List.reverse_eq_nil_iff.mp hl
    cases hm
  | cons a r =>
    obtain rfl : l = r.reverse ++ [a] := by rw [← List.reverse_reverse l, hl, List.reverse_cons]
    rw [List.dropLast_concat]
    rw [List.length_append, List.length_singleton, Nat.add_sub_cancel, List.getElem?_append_right (Nat.le_refl _), Nat.sub_self] at h
    rcases List.mem_append.mp hm with x | x
    · exact .inl x
    · rw [List.mem_singleton.mp x]
      exact .inr (Option.some.inj h)
theorem MetW.drop {es : List Ent} {q : Ask} {ms : List Nat} {ws : List (Option Nat)} {y : Option Nat} (m : MetW es q ms ws) (h : ws[ws.length - 1]? = some y) (hy : ∀ j, y = some j → j ∈ ms) : MetW es q ms ws.dropLast where
  nd := m.nd
  hm := m.hm
  hw := fun j hj => m.hw j (List.dropLast_subset _ hj)
  base := fun p hp => (m.base p hp).elim .inl fun x => (mem_last h x).elim .inr fun e => .inl (hy p e.symm)
  step := fun j hj e he c hc p hp => (m.step j hj e he c hc p hp).elim .inl fun x => (mem_last h x).elim .inr fun e => .inl (hy p e.symm)
theorem MetW.meet {es : List Ent} {q : Ask} {ms : List Nat} {ws : List (Option Nat)} {j : Nat} {e : Ent} (m : MetW es q ms ws) (h : ws[ws.length - 1]? = some (some j)) (hj : j ∉ ms) (he : es[j]? = some e) : MetW es q (ms ++ [j]) (ws.dropLast ++ e.rs.map (lastIx es j)) := by
  have R : Reach es q j := m.hw j (List.mem_of_getElem? h)
  refine ⟨?_, fun i hi => ?_, fun i hi => ?_, fun p hp => ?_, fun i hi e' he' c hc p hp => ?_⟩
  · rw [List.nodup_append]
    exact ⟨m.nd, by simp, fun a ha b hb e => hj (by rw [← List.mem_singleton.mp hb, ← e]; exact ha)⟩
  · rcases List.mem_append.mp hi with x | x
    · exact m.hm i x
    · rw [List.mem_singleton.mp x]; exact R
  · rcases List.mem_append.mp hi with x | x
    · exact m.hw i (List.dropLast_subset _ x)
    · obtain ⟨c, hc, e⟩ := List.mem_map.mp x
      exact .step R he hc e
  · rcases m.base p hp with x | x
    · exact .inl (List.mem_append_left _ x)
    · rcases mem_last h x with y | y
      · exact .inr (List.mem_append_left _ y)
      · exact .inl (List.mem_append_right _ (by rw [Option.some.inj y]; simp))
  · rcases List.mem_append.mp hi with x | x
    · rcases m.step i x e' he' c hc p hp with x | x
      · exact .inl (List.mem_append_left _ x)
      · rcases mem_last h x with y | y
        · exact .inr (List.mem_append_left _ y)
        · exact .inl (List.mem_append_right _ (by rw [Option.some.inj y]; simp))
    · obtain rfl := List.mem_singleton.mp x
      rw [he] at he'
      obtain rfl := Option.some.inj he'
      exact .inr (List.mem_append_right _ (List.mem_map.mpr ⟨c, hc, hp⟩))
theorem MetW.end_ {es : List Ent} {q : Ask} {ms : List Nat} (m : MetW es q ms []) : ms.Perm (metL es q q.2.2) :=
  met_closed m.nd m.hm (fun p hp => (m.base p hp).resolve_right (by simp)) fun j hj e he c hc p hp => (m.step j hj e he c hc p hp).resolve_right (by simp)
theorem pos_le {es : List Ent} {z : Str} {k : Nat} (h : PosOf es z k) : k ≤ es.length := by
  rcases h with ⟨_, rfl⟩ | ⟨_, ⟨e, he, _⟩, _⟩
  · exact Nat.le_refl _
  · exact Nat.le_of_lt (List.getElem?_eq_some_iff.mp he).1
theorem pos_first {es : List Ent} {z : Str} {k : Nat} (ok : ∀ e ∈ es, e.Ok) (h : PosOf es z k) : (posL es z es.length ++ [es.length])[0]? = some k := by
  rcases h with ⟨rfl, rfl⟩ | ⟨_, ⟨e, he, hz⟩, hf⟩
  · rw [posL_no fun j e _ he => id_ne (ok e (List.mem_of_getElem? he))]
    rfl
  · have h := posL_first he hz hf (List.getElem?_eq_some_iff.mp he).1
    rw [List.getElem?_append_left (List.getElem?_eq_some_iff.mp h).1]
    exact h
/-- the first position of the target's reader -/
theorem st_start {K : PySem.W.Frag} {σ : L2.St} {H : Hp} {t : Addr} {v : V} {ex : List Addr} {es : List Ent} {z c : Str} {k i j : Nat} {Q : VK} (s0 : σ[0]? = some (some v)) (rv : Rp ex H (logD es) v) (ok : ∀ e ∈ es, e.Ok) (h60 : es.length ≤ 60) (ht : H t = some (.tup [.str z, .str c])) (hpos : PosOf es z k)
    (w0 : ∀ x y, wipe (((wipe σ [i, j]).set i x).set j y) [i, j] = wipe σ [i, j]) (w1 : ∀ x y, (((wipe σ [i, j]).set i x).set j y)[1]? = some (some (.ref t))) (wi : ∀ x y, (((wipe σ [i, j]).set i x).set j y)[i]? = some x) (wj : ∀ x y, (((wipe σ [i, j]).set i x).set j y)[j]? = some y)
    (q : ∀ H', Kp [] H H' → Q (.int (k : Nat)) H') :
    tOp (rIxL K) (tOp rCat (tLc (iEnumT K (tCons (tVar 0) tNil)) (gTup K 2 (gCons (gName i) (gCons (gName j) gNil))) (tTest (tOp rEq (tOp (rIxT K) (tVar j) (tC (V.int 1))) (tOp (rIxT K) (tVar 1) (tC (V.int 0))))) (tVar i) [i, j])
      (tLst (tCons (tCB (fun xs H Q => ∃ p ys, xs = [V.ref p] ∧ (SqL K H p ys ∨ SqT K H p ys) ∧ Q (V.int ys.length) H) (tCons (tVar 0) tNil)) tNil))) (tC (V.int 0)) σ H Q := by
  have line : (100000 : Nat) < sizeLine := by decide
  obtain ⟨a, xs, rfl, na, ha, hx⟩ := rv
  have hl : es.length = xs.length := by
    have := hx.length
    rwa [List.length_map] at this
  refine ⟨_, s0, a, xs, rfl, .inl (.inl ha), fun C nC => ?_⟩
  have naC : a ≠ C := fun y => by rw [y, nC] at ha; cases ha
  have ntC : t ≠ C := fun y => by rw [y, nC] at ht; cases ht
  have fin : ∀ (L : Addr) (H' : Hp), Kp [] H H' → H' L = some (.lst (posV (posL es z es.length))) → tLst (tCons (tCB (fun xs H Q => ∃ p ys, xs = [V.ref p] ∧ (SqL K H p ys ∨ SqT K H p ys) ∧ Q (V.int ys.length) H) (tCons (tVar 0) tNil)) tNil) σ H' fun y H2 => rCat (.ref L) y H2 fun x H3 => tC (V.int 0) σ H3 fun y H4 => rIxL K x y H4 Q := by
    intro L H' k1 hL
    refine ⟨_, s0, a, xs, rfl, .inr (.inl (.inl (k1 _ _ (by simp) ha))), (by show 1 ≤ sizeLine; decide), fun L2 nL2 => ?_⟩
    have kL : Kp [] H' (upd H' L2 (.lst [.int (xs.length : Nat)])) := Kp.laid nL2
    refine ⟨L, L2, _, _, rfl, rfl, kL _ _ (by simp) hL, upd_same, ?_, fun L3 nL3 => ?_⟩
    · have := posL_len es z es.length
      rw [posV_len]
      show _ + 1 ≤ sizeLine
      omega
    have kL3 := Kp.laid (ex := []) (o := .lst (posV (posL es z es.length) ++ [.int (xs.length : Nat)])) nL3
    refine c_of (ix_lst (j := 0) upd_same ?_ rfl (q _ (k1.trans (kL.trans kL3))))
    have : posV (posL es z es.length) ++ [.int (xs.length : Nat)] = posV (posL es z es.length ++ [es.length]) := by rw [posV_app, hl]; rfl
    rw [this]
    unfold posV
    rw [List.getElem?_map, pos_first ok hpos]
    rfl
  refine lc_inv es.length (fun n H' => Kp [C] (upd H C (.lst [])) H' ∧ H' C = some (.lst (posV (posL es z n)))) ⟨Kp.refl, upd_same⟩ (fun H' ⟨k1, hC⟩ => ⟨⟨xs, .inl (.inl (k1 _ _ (by simpa using naC) (by rw [upd_ne naC]; exact ha))), hl.symm⟩, fin C H' (Kp.drop (((Kp.laid (ex := []) nC).mono (by simp)).trans k1) nC) hC⟩) (fun n H' hn ⟨k1, _⟩ => ⟨xs, .inl (.inl (k1 _ _ (by simpa using naC) (by rw [upd_ne naC]; exact ha))), by omega⟩) ?_
  rintro n H' x H2 hn ⟨k1, hC⟩ ⟨T, y, nT, rfl, rfl, hy⟩
  have haT : H' a = some (.tup xs) := k1 _ _ (by simpa using naC) (by rw [upd_ne naC]; exact ha)
  have htT : H' t = some (.tup [.str z, .str c]) := k1 _ _ (by simpa using ntC) (by rw [upd_ne ntC]; exact ht)
  have hy := hy xs (.inl (.inl haT))
  obtain ⟨e, he⟩ : ∃ e, es[n]? = some e := ⟨_, List.getElem?_eq_getElem hn⟩
  obtain ⟨x', hx', rx⟩ := RpAll.at hx (show (es.map Ent.data)[n]? = some e.data by rw [List.getElem?_map, he]; rfl)
  rw [hy] at hx'
  obtain rfl := Option.some.inj hx'
  have kT : Kp [] H' (upd H' T (.tup [.int (n : Nat), y])) := Kp.laid nT
  have hT : (upd H' T (.tup [.int (n : Nat), y])) T = some (.tup [.int (n : Nat), y]) := upd_same
  have k2 : Kp [C] (upd H C (.lst [])) (upd H' T (.tup [.int (n : Nat), y])) := k1.trans (kT.mono (by simp))
  have hCT := kT _ _ (by simp) hC
  have htT := kT _ _ (by simp) htT
  generalize upd H' T (.tup [.int (n : Nat), y]) = H3 at kT hT k2 hCT htT ⊢
  have kHC : Kp [C] H H3 := ((Kp.laid (ex := []) nC).mono (by simp)).trans k2
  have kH : Kp [] H H3 := Kp.drop kHC nC
  have re := Rp.keep (kH.mono (by simp)) _ _ rx
  obtain ⟨ds, ed, h1, _⟩ := ent_reads e
  refine ⟨T, _, rfl, .inl (.inl hT), rfl, _, _, rfl, _, _, rfl, rfl, w0 _ _, ?_⟩
  refine ⟨_, wj _ _, c_of (ent_ix re ed h1 rfl fun u ru => ?_)⟩
  obtain rfl : u = .str e.id := ru
  refine ⟨_, w1 _ _, c_of ⟨t, _, _, _, rfl, rfl, .inl (.inl htT), rfl, ?_⟩⟩
  refine ⟨rfl, ?_⟩
  have hd : decide (V.str e.id = V.str z) = decide (e.id = z) := by by_cases h : e.id = z <;> simp [h]
  rw [hd]
  have hs : posL es z (n + 1) = if e.id = z then posL es z n ++ [n] else posL es z n := by
    show (if (es.map Ent.id)[n]? = some z then posL es z n ++ [n] else posL es z n) = _
    rw [List.getElem?_map, he]
    show (if some e.id = some z then _ else _) = _
    by_cases h : e.id = z
    · rw [if_pos h, if_pos (by rw [h])]
    · rw [if_neg h, if_neg (fun y => h (Option.some.inj y))]
  refine ⟨_, rfl, ?_⟩
  by_cases h : e.id = z
  · rw [if_pos h] at hs
    rw [if_pos (decide_eq_true h)]
    refine ⟨_, wi _ _, _, hCT, ?_, k2.trans (Kp.put (by simp)), ?_⟩
    · have := posL_len es z n
      rw [posV_len]
      omega
    · rw [upd_same, hs, posV_app]
      rfl
  · rw [if_neg h] at hs
    rw [if_neg (by rw [decide_eq_false h]; exact Bool.false_ne_true), hs]
    exact ⟨k2, hCT⟩
section
variable {P : Program} {w : World} {K : PySem.W.Frag} {mg : Str → Option Value} {base : Heap}
theorem ok_met (DLawMet : Fn K mg "_law_met" sLawMet ["entries", "goal", "gone"]) (DLawSnapshots : Fn K mg "_law_snapshots" sLawSnapshots ["entries", "gone"]) (b_enumerate : mg "enumerate" = none) (b_dict : mg "dict" = none) (b_len : mg "len" = none) (b_sorted : mg "sorted" = none) : FnOk P w K mg base CX0 2 DLawMet.f DLawMet.fd ["entries", "goal", "gone"] spMet := by
  refine DLawMet.F.ok scLawMet (fun vs H Q E h => ?_) (fun cdv A outer s H vs Q E hr h => ?_)
  · obtain ⟨v, t, g, es, gone, z, c, k, ex, rfl, _⟩ := h
    rfl
  obtain ⟨v, t, g, es, gone, z, c, k, ex, rfl, rv, ok, h60, ht, hpos, hg, hgl, lv, q⟩ := h
  have GLawSnapshots := ok_snaps (P := P) (w := w) (base := base) DLawSnapshots b_enumerate b_dict
  have line : (100000 : Nat) < sizeLine := by decide
  have hu := hu_of hr
  refine ⟨_, pss_cons (ps_asg (pe_tup (pa_cons (pe_fn DLawSnapshots GLawSnapshots hr (pa_cons (pv 0) (pa_cons (pv 2) pa_nil))) (pa_cons pe_dnewK pa_nil))) (pg_tupE K (by rfl) (pgs_cons (pg_name (i := 5) scLawMet.nd rfl (.inr rfl)) (pgs_cons (pg_name (i := 6) scLawMet.nd rfl (.inl rfl)) pgs_nil))))
      (pss_cons (ps_set (i := 3) scLawMet.nd rfl (.inl rfl) (pe_ix (ixlE K) (pe_op op_cat (pe_lc (own := [("at", 7), ("entry", 8)]) (g := gTup K 2 (gCons (gName 7) (gCons (gName 8) gNil))) (by rfl) scLawMet.nd (pi_enumT K (by rfl) b_enumerate (pa_cons (pv 0) pa_nil)) (blkOk_by (N := ["entries", "goal", "gone", "start", "waiting", "before", "met", "at", "entry", "cell"]) (sc := defScope sLawMet) (by decide +kernel)) (fun _ _ _ _ _ => (pg_tupE K (by rfl) (pgs_cons (pg_name (i := 7) scLawMet.nd rfl (.inl rfl)) (pgs_cons (pg_name (i := 8) scLawMet.nd rfl (.inl rfl)) pgs_nil)))) (fun _ _ _ _ _ => (pts_one (pt_cmpR op_eq (pe_ix (ixtE K) (pv 8) pe_int (fun _ _ => rfl)) (pe_ix (ixtE K) (pv 1) pe_int (fun _ _ => rfl)) (nomark _)))) (fun _ _ _ _ _ => (pv 7))) (pe_lst (pa_cons (pe_callB (lenE K) (by rfl) b_len (by decide +kernel) (pa_cons (pv 0) pa_nil)) pa_nil))) pe_int (fun _ _ => rfl)))
      (pss_cons (ps_set (i := 4) scLawMet.nd rfl (.inl rfl) (pe_lst (pa_cons (pe_dget1 hu (pe_ix (ixlE K) (pv 5) (pv 3) (fun _ _ => rfl)) (pe_ix (ixtE K) (pv 1) pe_int (fun _ _ => rfl)) ⟨rfl, rfl, rfl, rfl⟩) pa_nil)))
      (pss_cons (ps_while PassesOwn.never (pt_cmpR (op_neNil K hr.units) (pv 4) (pe_lst pa_nil) (nomark _))
      (pss_cons (ps_set (i := 7) scLawMet.nd rfl (.inr rfl) (pe_bm0 PySem.F.plainAttrs_list PySem.F.slot_list_pop PySem.F.type_list_pop mt_pop (pv 4)))
      (pss_one (ps_if (PW.pt (pw_and (pt_cmpR op_notN (pv 7) pe_non (nomark _)) (pw_and1 (pt_cmp (pc_dnotin hu (pv 7) (pv 6))))))
      (pss_cons (ps_dput hu (pv 6) (pv 7) pe_bl rfl)
      (pss_one (ps_expr (bmE K PySem.F.plainAttrs_list PySem.F.slot_list_extend PySem.F.type_list_extend mt_extend (pv 4) (pa_cons (pe_lc (own := [("cell", 9)]) (g := gName 9) (tt := tYes) (by rfl) scLawMet.nd (piTupE K (pe_ix (ixtE K) (pe_ix (ixtE K) (pv 0) (pv 7) (fun _ _ => rfl)) pe_int (fun _ _ => rfl))) (blkOk_by (N := ["entries", "goal", "gone", "start", "waiting", "before", "met", "at", "entry", "cell"]) (sc := defScope sLawMet) (by decide +kernel)) (fun _ _ _ _ _ => (pg_name (i := 9) scLawMet.nd rfl (.inl rfl))) (fun _ _ _ _ _ => pts_nil) (fun _ _ _ _ _ => (pe_dget1 hu (pe_ix (ixlE K) (pv 5) (pv 7) (fun _ _ => rfl)) (pv 9) ⟨rfl, rfl, rfl, rfl⟩))) pa_nil)))))
      pss_nil))))
      (pss_one (ps_ret (pe_callB (call_sortedDI (by rfl)) (by rfl) b_sorted (by decide +kernel) (pa_cons (pv 6) pa_nil))))))), ?_⟩
  refine ⟨_, rfl, _, rfl, v, g, es, gone, ex, rfl, rv, ok, by omega, hg, hgl, lv, fun B H1 k1 snaps => ?_⟩
  intro MD nMD
  refine ⟨(by show 2 ≤ sizeLine; decide), fun T nT => ⟨T, [.ref B, .ref MD], rfl, .inl (.inl upd_same), rfl, _, _, rfl, _, _, rfl, rfl, ?_⟩⟩
  have kM : Kp [] H1 (upd H1 MD (.dK [])) := Kp.laid nMD
  have kT : Kp [] (upd H1 MD (.dK [])) (upd (upd H1 MD (.dK [])) T (.tup [.ref B, .ref MD])) := Kp.laid nT
  have hMD : (upd (upd H1 MD (.dK [])) T (.tup [.ref B, .ref MD])) MD = some (.dK []) := kT _ _ (by simp) upd_same
  have nMD0 : H MD = none := kp_none k1 nMD
  have k2 := k1.trans (kM.trans kT)
  have snaps2 := (snaps.keep kM).keep kT
  generalize upd (upd H1 MD (.dK [])) T (.tup [.ref B, .ref MD]) = H2 at kT hMD k2 snaps2 ⊢
  have rv2 := Rp.keep (k2.mono (by simp)) _ _ rv
  have ht2 := k2 _ _ (by simp) ht
  refine st_start (K := K) (i := 7) (j := 8) (z := z) (c := c) (t := t) rfl rv2 ok h60 ht2 hpos (fun _ _ => rfl) (fun _ _ => rfl) (fun _ _ => rfl) (fun _ _ => rfl) fun H3 k3 => ?_
  have snaps3 := snaps2.keep k3
  have ht3 := k3 _ _ (by simp) ht2
  have kle := pos_le hpos
  have hel : (es.map (bl gone)).length = es.length := List.length_map ..
  obtain ⟨ds, d, hB, hd, snap⟩ := snaps3.ix (i := k) (by rw [hel]; exact kle)
  have hMD3 := k3 _ _ (by simp) hMD
  obtain ⟨isD, dget⟩ := snap.get c
  refine ⟨_, rfl, _, rfl, ix_lst hB hd rfl ⟨d, rfl, isD, _, rfl, c_of ⟨t, _, _, _, rfl, rfl, .inl (.inl ht3), rfl, _, dget, ?_⟩⟩⟩
  rw [natV_get]
  refine ⟨(by show 1 ≤ sizeLine; decide), fun WL nWL => ?_⟩
  have kW : Kp [] H3 (upd H3 WL (.lst [natV (lastIx (es.map (bl gone)) k c)])) := Kp.laid nWL
  have hWL : (upd H3 WL (.lst [natV (lastIx (es.map (bl gone)) k c)])) WL = some (.lst ([lastIx (es.map (bl gone)) k c].map natV)) := upd_same
  have k4 := k2.trans (k3.trans kW)
  have snaps4 := snaps3.keep kW
  have hMD4 := kW _ _ (by simp) hMD3
  have nWM : WL ≠ MD := fun y => by rw [y, hMD3] at nWL; cases nWL
  have nWL0 : H WL = none := kp_none (k2.trans k3) nWL
  generalize upd H3 WL (.lst [natV (lastIx (es.map (bl gone)) k c)]) = H4 at kW hWL k4 snaps4 hMD4 ⊢
  have rv4 := Rp.keep (k4.mono (by simp)) _ _ rv
  have nMD4 : H1 MD = none := nMD
  have nWL1 : H1 WL = none := kp_none ((kM.trans kT).trans k3) nWL
  have kH4 : Kp [] H1 H4 := ((kM.trans kT).trans k3).trans kW
  have back1 : ∀ {H' : Hp}, Kp [WL, MD] H4 H' → Kp [] H1 H' := fun k => Kp.drop (Kp.drop ((kH4.mono (by simp)).trans k) nWL1) nMD4
  have back : ∀ {H' : Hp}, Kp [WL, MD] H4 H' → Kp [] H H' := fun k => k1.trans (back1 k)
  obtain ⟨a, xs, rfl, na, ha, hx⟩ := rv
  have hl : es.length = xs.length := by
    have := hx.length
    rwa [List.length_map] at this
  generalize hes : es.map (bl gone) = es' at snaps snaps2 snaps3 snaps4 hel snap hWL q
  have cell : ∀ {ms : List Nat}, (∀ j ∈ ms, Reach es' (z, c, k) j) → ms.Nodup → ms.length ≤ 60 := fun hm nd => by
    have h1 : List.length _ ≤ k := nodup_below nd fun x hx => reach_lt (hm x hx)
    omega
  refine ⟨fun m σ H' => ∃ (c7 : Option V) (ms : List Nat) (ws : List (Option Nat)), σ = [some (.ref a), some (.ref t), some (.ref g), some (.int (k : Nat)), some (.ref WL), some (.ref B), some (.ref MD), c7, none, none] ∧ Kp [WL, MD] H4 H' ∧ H' WL = some (.lst (ws.map natV)) ∧ H' MD = some (.dK (metKV ms)) ∧ MetW es' (z, c, k) ms ws ∧ ws.length ≤ 1 + 3 * ms.length ∧ m = 4 * (60 - ms.length) + ws.length, ⟨_, none, [], _, rfl, Kp.refl, hWL, hMD4, ⟨.nil, nofun, fun j hj => .base (List.mem_singleton.mp hj).symm, fun p hp => .inr (List.mem_singleton.mpr hp.symm), nofun⟩, Nat.le_refl _, rfl⟩, ?_⟩
  rintro m σ H5 ⟨c7, ms, ws, rfl, k5, hW5, hM5, mw, wl, rfl⟩
  have ms60 := cell mw.hm mw.nd
  have h400 : (100000 : Nat) < sizeLine := by decide
  refine ⟨_, rfl, Nat.zero_le _, fun L nL => ?_⟩
  have kL : Kp [] H5 (upd H5 L (.lst [])) := Kp.laid nL
  have k6 := k5.trans (kL.mono (by simp))
  have hW6 := kL _ _ (by simp) hW5
  have hM6 := kL _ _ (by simp) hM5
  refine ⟨WL, L, _, rfl, rfl, .inl (.inl hW6), .inl (.inl upd_same), _, rfl, ?_⟩
  generalize upd H5 L (.lst []) = H6 at kL k6 hW6 hM6 ⊢
  cases hws : ws with
  | nil =>
    subst hws
    rw [if_neg (by simp)]
    refine ⟨_, rfl, MD, metKV ms, ms.map Int.ofNat, rfl, .inl hM6, ?_, by rw [List.length_map]; omega, fun ys p hp ha np => ?_⟩
    · unfold metKV
      rw [List.map_map, List.map_map]
      rfl
    · have e := met_sorted mw.end_ hp ha
      have kp := Kp.laid (ex := []) (o := .lst (ys.map V.int)) np
      refine q p _ ((back k6).trans kp) (kp_none (back k6) np) ?_
      rw [upd_same, e]
      unfold posV
      rw [List.map_map]
      rfl
  | cons w0 wr0 =>
    have hne : ws ≠ [] := by rw [hws]; simp
    have hb : (!(ws.map natV).isEmpty) = true := by rw [hws]; rfl
    rw [← hws, hb, if_pos rfl]
    clear hws
    obtain ⟨o, ho⟩ : ∃ o, ws[ws.length - 1]? = some o := ⟨_, List.getElem?_eq_getElem (by have := List.length_pos_iff.mpr hne; omega)⟩
    refine ⟨fun σ' H' => ∃ m', m' < 4 * (60 - ms.length) + ws.length ∧ ∃ (c7 : Option V) (ms : List Nat) (ws : List (Option Nat)), σ' = [some (.ref a), some (.ref t), some (.ref g), some (.int (k : Nat)), some (.ref WL), some (.ref B), some (.ref MD), c7, none, none] ∧ Kp [WL, MD] H4 H' ∧ H' WL = some (.lst (ws.map natV)) ∧ H' MD = some (.dK (metKV ms)) ∧ MetW es' (z, c, k) ms ws ∧ ws.length ≤ 1 + 3 * ms.length ∧ m' = 4 * (60 - ms.length) + ws.length, fun _ _ h => h, ?_⟩
    have hpos : 0 < ws.length := List.length_pos_iff.mpr hne
    refine ⟨_, rfl, .inl ⟨rfl, _, SqL.of hW6⟩, WL, _, natV o, rfl, rfl, hW6, by rw [List.length_map, List.getElem?_map, ho]; rfl, ?_⟩
    have kP : Kp [WL] H6 (upd H6 WL (.lst ((ws.map natV).dropLast))) := Kp.put (by simp)
    have hW7 : (upd H6 WL (.lst ((ws.map natV).dropLast))) WL = some (.lst (ws.dropLast.map natV)) := by rw [upd_same, List.map_dropLast]
    have nMW : MD ≠ WL := nWM.symm
    have hM7 : (upd H6 WL (.lst ((ws.map natV).dropLast))) MD = some (.dK (metKV ms)) := by rw [upd_ne nMW]; exact hM6
    have k7 := k6.trans (kP.mono (by simp))
    generalize upd H6 WL (.lst ((ws.map natV).dropLast)) = H7 at kP hW7 hM7 k7 ⊢
    have done : ∀ (H' : Hp) (c7 : Option V), Kp [] H7 H' → (∀ j, o = some j → j ∈ ms) → ∃ m', m' < 4 * (60 - ms.length) + ws.length ∧ ∃ (d7 : Option V) (ms : List Nat) (ws : List (Option Nat)), [some (.ref a), some (.ref t), some (.ref g), some (.int (k : Nat)), some (.ref WL), some (.ref B), some (.ref MD), c7, none, none] = [some (.ref a), some (.ref t), some (.ref g), some (.int (k : Nat)), some (.ref WL), some (.ref B), some (.ref MD), d7, none, none] ∧ Kp [WL, MD] H4 H' ∧ H' WL = some (.lst (ws.map natV)) ∧ H' MD = some (.dK (metKV ms)) ∧ MetW es' (z, c, k) ms ws ∧ ws.length ≤ 1 + 3 * ms.length ∧ m' = 4 * (60 - ms.length) + ws.length := fun H' c7 kk hy =>
      ⟨_, by rw [show ws.length = ws.dropLast.length + 1 by rw [List.length_dropLast]; omega]; exact Nat.lt_succ_self _, c7, ms, ws.dropLast, rfl, k7.trans (kk.mono (by simp)), kk _ _ (by simp) hW7, kk _ _ (by simp) hM7, mw.drop ho hy, by rw [List.length_dropLast]; omega, rfl⟩
    refine ⟨_, rfl, rfl, _, rfl, ?_⟩
    cases o with
    | none =>
      refine if_f (if_f ?_)
      exact done _ _ Kp.refl nofun
    | some j =>
      have hnn : (!decide (natV (some j) = V.non)) = true := by rw [decide_eq_false (by show V.int (j : Nat) ≠ V.non; exact nofun)]; rfl
      rw [hnn]
      refine if_t ?_
      refine ⟨_, rfl, _, rfl, MD, _, rfl, DGet.k (k := Sum.inl (j : Nat)) hM7, _, rfl, ?_⟩
      have hsome : (!(valV (metKV ms) (Sum.inl (j : Nat) : L2.Key)).isSome) = decide (j ∉ ms) := by
        rw [metKV_get]
        by_cases h : j ∈ ms <;> simp [h]
      rw [hsome]
      by_cases hj : j ∈ ms
      · rw [decide_eq_false (not_not_intro hj)]
        refine if_f ?_
        exact done _ _ Kp.refl fun i e => by rw [← Option.some.inj e]; exact hj
      rw [decide_eq_true hj]
      refine if_t ?_
      have R := mw.hw j (List.mem_of_getElem? ho)
      obtain ⟨cw, hcw⟩ := reach_wr R
      obtain ⟨e, he, he'⟩ : ∃ e, es[j]? = some e ∧ es'[j]? = some e := by
        rw [← hes] at hcw ⊢
        exact wr_live hcw
      have hjl : j < es'.length := (List.getElem?_eq_some_iff.mp he').1
      refine ⟨_, rfl, _, rfl, MD, _, rfl, .inl ⟨_, Sum.inl (j : Nat), hM7, rfl, by unfold metKV; rw [List.length_map]; omega, rfl⟩, ?_⟩
      rw [metKV_put hj]
      have kD : Kp [MD] H7 (upd H7 MD (.dK (metKV (ms ++ [j])))) := Kp.put (by simp)
      have hM8 : (upd H7 MD (.dK (metKV (ms ++ [j])))) MD = some (.dK (metKV (ms ++ [j]))) := upd_same
      have hW8 : (upd H7 MD (.dK (metKV (ms ++ [j])))) WL = some (.lst (ws.dropLast.map natV)) := by rw [upd_ne nWM]; exact hW7
      have k8 := k7.trans (kD.mono (by simp))
      generalize upd H7 MD (.dK (metKV (ms ++ [j]))) = H8 at kD hM8 hW8 k8 ⊢
      have rve : ∀ {H' : Hp}, Kp [WL, MD] H4 H' → ∃ x, H' a = some (.tup xs) ∧ xs[j]? = some x ∧ Rp ex H' e.data x := fun kk => by
        obtain ⟨x, hxj, rx⟩ := RpAll.at hx (show (es.map Ent.data)[j]? = some e.data by rw [List.getElem?_map, he]; rfl)
        exact ⟨x, back kk _ _ (by simp) ha, hxj, Rp.keep ((back kk).mono (by simp)) _ _ rx⟩
      have hrs := (ok e (List.mem_of_getElem? he)).rs
      -- the reads' sources
      obtain ⟨x, hax, hxj, rx⟩ := rve k8
      obtain ⟨ds', ed, _, h2⟩ := ent_reads e
      refine ⟨_, rfl, .inl ⟨rfl, _, SqL.of hW8⟩, _, rfl, _, rfl, ⟨a, xs, _, x, rfl, rfl, .inl (.inl hax), atI_nat hxj, c_of (ent_ix rx ed h2 rfl fun u ru => ?_)⟩⟩
      obtain ⟨ra, cs, rfl, _, hra, hcs⟩ := ru
      obtain rfl := strs_of hcs
      refine ⟨ra, rfl, ⟨_, .inl (.inl hra)⟩, fun C nC => ?_⟩
      have nrC : ra ≠ C := fun y => by rw [y, nC] at hra; cases hra
      have kC : Kp [] H8 (upd H8 C (.lst [])) := Kp.laid nC
      have dC : ∀ {H' : Hp}, Kp [C] (upd H8 C (.lst [])) H' → Kp [] H8 H' := fun kk => Kp.drop ((kC.mono (by simp)).trans kk) nC
      refine lc_tup (K := K) (xs := e.rs.map V.str) (fun i H' => Kp [C] (upd H8 C (.lst [])) H' ∧ H' C = some (.lst (((e.rs.take i).map (lastIx es' j)).map natV))) ⟨Kp.refl, upd_same⟩ (fun i H' _ ⟨kk, _⟩ => .inl (.inl (dC kk _ _ (by simp) hra))) (fun i y H' hy ⟨kk, hC⟩ => ?_) fun H' ⟨kk, hC⟩ => ?_
      · obtain ⟨cc, hcc, rfl⟩ : ∃ cc, e.rs[i]? = some cc ∧ V.str cc = y := by
          rw [List.getElem?_map] at hy
          cases hcj : e.rs[i]? with
          | none => rw [hcj] at hy; cases hy
          | some cc => rw [hcj] at hy; exact ⟨cc, rfl, Option.some.inj hy⟩
        have k9 := k8.trans ((dC kk).mono (by simp))
        obtain ⟨ds, d, hB, hd, sn⟩ := (snaps.keep (back1 k9)).ix (i := j) (by omega)
        obtain ⟨isD, dget⟩ := sn.get cc
        refine ⟨rfl, yes_on ⟨_, rfl, _, rfl, ix_lst hB hd rfl ⟨d, rfl, isD, _, rfl, _, dget, ?_⟩⟩⟩
        rw [natV_get]
        refine ⟨_, hC, ?_, kk.trans (Kp.put (by simp)), ?_⟩
        · rw [List.length_map, List.length_map, List.length_take]
          omega
        · rw [upd_same, List.take_add_one, hcc]
          simp
      · have hfull : (e.rs.take (e.rs.map V.str).length) = e.rs := by rw [List.length_map, List.take_length]
        rw [hfull] at hC
        have k9 := dC kk
        refine ⟨WL, C, _, _, rfl, rfl, k9 _ _ (by simp) hW8, hC, ?_, ?_⟩
        · rw [List.length_map, List.length_map, List.length_map, List.length_dropLast]
          omega
        · have kX : Kp [WL] H' (upd H' WL (.lst (ws.dropLast.map natV ++ (e.rs.map (lastIx es' j)).map natV))) := Kp.put (by simp)
          refine ⟨4 * (60 - (ms ++ [j]).length) + (ws.dropLast ++ e.rs.map (lastIx es' j)).length, ?_, _, ms ++ [j], ws.dropLast ++ e.rs.map (lastIx es' j), rfl, (k8.trans (k9.mono (by simp))).trans (kX.mono (by simp)), ?_, ?_, mw.meet ho hj he', ?_, rfl⟩
          · have mm := mw.meet ho hj he'
            have l1 := cell mm.hm mm.nd
            rw [List.length_append, List.length_singleton] at l1 ⊢
            rw [List.length_append, List.length_dropLast, List.length_map]
            omega
          · rw [upd_same, List.map_append]
          · rw [upd_ne nWM.symm]
            exact k9 _ _ (by simp) hM8
          · rw [List.length_append, List.length_append, List.length_dropLast, List.length_map, List.length_singleton]
            omega
end
end NV
/-! LcR -/
set_option Elab.async false
set_option linter.all false
set_option maxRecDepth 100000
set_option maxHeartbeats 600000
/-! a comprehension over texts that makes a tuple at each turn -/
namespace NV
open PySem PySem.Spec PyProof.Rows L2
/-- a triple laid after a list's items -/
theorem RpAll.laid {ex : List Addr} {H : Hp} {ds : List PyData} {vs ws : List V} {es : List PyData} {T : Addr} (h : RpAll ex H ds vs) (nT : H T = none) (lv : Live ex H) (hw : RpAll ex H es ws) : RpAll ex (upd H T (.tup ws)) (ds ++ [.tuple es]) (vs ++ [.ref T]) := by
  have kT : Kp [] H (upd H T (.tup ws)) := Kp.laid nT
  refine RpAll.app (RpAll.keep (kT.mono (by simp)) _ _ h) ⟨_, [], rfl, ⟨T, ws, rfl, fun z => lv T z nT, upd_same, RpAll.keep (kT.mono (by simp)) _ _ hw⟩, rfl⟩
/-- what is gone through: texts, by their places, the heap as it was -/
structure TxtIt (J : It) (zs : List Str) (H1 : Hp) : Prop where
  go : ∀ j H, Kp [] H1 H → j < zs.length → J.go j H
  stop : ∀ H, Kp [] H1 H → J.stop zs.length H
  yld : ∀ j H x H', Kp [] H1 H → j < zs.length → J.yld j H x H' → H' = H ∧ ∃ c, zs[j]? = some c ∧ x = .str c
theorem txt_at {zs : List Str} {j : Nat} {x : V} (h : (zs.map V.str)[j]? = some x) : ∃ c, zs[j]? = some c ∧ x = .str c := by
  rw [List.getElem?_map] at h
  cases hc : zs[j]? with
  | none => rw [hc] at h; cases h
  | some c => rw [hc] at h; exact ⟨c, rfl, (Option.some.inj h).symm⟩
theorem txt_tup {K : PySem.W.Frag} {a : Addr} {zs : List Str} {H1 : Hp} (h : H1 a = some (.tup (zs.map V.str))) : TxtIt (Itt K a) zs H1 where
  go := fun j H k hj => ⟨_, V.str zs[j], .inl (.inl (k _ _ (by simp) h)), by rw [List.getElem?_map, List.getElem?_eq_getElem hj]; rfl⟩
  stop := fun H k => ⟨_, .inl (.inl (k _ _ (by simp) h)), by rw [List.length_map]; exact Nat.le_refl _⟩
  yld := fun j H x H' k hj y => ⟨y.1, txt_at (y.2 _ (.inl (.inl (k _ _ (by simp) h))))⟩
theorem txt_lst {K : PySem.W.Frag} {a : Addr} {zs : List Str} {H1 : Hp} (h : H1 a = some (.lst (zs.map V.str))) : TxtIt (Itl K a) zs H1 where
  go := fun j H k hj => ⟨_, V.str zs[j], .inl (.inl (k _ _ (by simp) h)), by rw [List.getElem?_map, List.getElem?_eq_getElem hj]; rfl⟩
  stop := fun H k => ⟨_, .inl (.inl (k _ _ (by simp) h)), by rw [List.length_map]; exact Nat.le_refl _⟩
  yld := fun j H x H' k hj y => ⟨y.1, txt_at (y.2 _ (.inl (.inl (k _ _ (by simp) h))))⟩
theorem lc_rows {J : It} {te : TE} {i : Nat} {σ : L2.St} {C : Addr} {H1 : Hp} {Qd : Hp → Prop} {zs : List Str} {ex : List Addr} (f : Str → List PyData) (hJ : TxtIt J zs H1) (nC : H1 C = none) (lv : Live ex H1) (hz : zs.length < 1000) (hw : ∀ x, wipe ((wipe σ [i]).set i x) [i] = wipe σ [i])
    (hs : ∀ c H Q, c ∈ zs → Kp [] H1 H → (∀ T vs, H T = none → RpAll (C :: ex) H (f c) vs → Q (.ref T) (upd H T (.tup vs))) → te ((wipe σ [i]).set i (some (.str c))) H Q)
    (hd : ∀ H vs, Kp [] H1 H → H C = some (.lst vs) → RpAll (C :: ex) H (zs.map fun c => .tuple (f c)) vs → Qd H) :
    ∃ W : Nat → Nat → Hp → Prop, (∃ m, W 0 m (upd H1 C (.lst []))) ∧ ∀ i_1 m H, W i_1 m H →
      (J.stop i_1 H ∧ Qd H) ∨ (J.go i_1 H ∧ ∃ Nx : Hp → Prop, (∀ H', Nx H' → ∃ m', m' < m ∧ W (i_1 + 1) m' H') ∧ ∀ x H', J.yld i_1 H x H' → gName i x (wipe σ [i]) H' fun σ2 H2 => wipe σ2 [i] = wipe σ [i] ∧ tYes σ2 H2 fun b H3 =>
        if b = true then te σ2 H3 fun y H4 => ∃ acc, H4 C = some (.lst acc) ∧ acc.length < sizeLine ∧ Nx (upd H4 C (.lst (acc ++ [y]))) else Nx H3) := by
  have line : (100000 : Nat) < sizeLine := by decide
  have lvC : ∀ {H : Hp}, Kp [C] (upd H1 C (.lst [])) H → H C ≠ none → Live (C :: ex) H := fun k hC b hb => by
    rcases List.mem_cons.mp hb with e | e
    · rw [e]; exact hC
    · have kH : Kp [] H1 _ := Kp.drop (((Kp.laid (ex := []) nC).mono (by simp)).trans k) nC
      exact lv.kp0 kH b e
  have dC : ∀ {H : Hp}, Kp [C] (upd H1 C (.lst [])) H → Kp [] H1 H := fun k => Kp.drop (((Kp.laid (ex := []) nC).mono (by simp)).trans k) nC
  refine lc_inv zs.length (fun n H => Kp [C] (upd H1 C (.lst [])) H ∧ ∃ vs, H C = some (.lst vs) ∧ RpAll (C :: ex) H ((zs.take n).map fun c => .tuple (f c)) vs) ⟨Kp.refl, [], upd_same, rfl⟩ (fun H ⟨k, vs, hC, hr⟩ => ⟨hJ.stop H (dC k), hd H vs (dC k) hC (by rw [List.take_length] at hr; exact hr)⟩) (fun n H hn ⟨k, _⟩ => hJ.go n H (dC k) hn) ?_
  rintro n H x H' hn ⟨k, vs, hC, hr⟩ hy
  obtain ⟨rfl, c, hc, rfl⟩ := hJ.yld n H x H' (dC k) hn hy
  refine ⟨hw _, yes_on (hs c _ _ (List.mem_of_getElem? hc) (dC k) fun T ws nT hws => ?_)⟩
  have kT : Kp [] H' (upd H' T (.tup ws)) := Kp.laid nT
  have hvl : vs.length ≤ zs.length := by
    have := hr.length
    rw [List.length_map, List.length_take] at this
    omega
  refine ⟨vs, kT _ _ (by simp) hC, by omega, (k.trans (kT.mono (by simp))).trans (Kp.put (by simp)), _, upd_same, ?_⟩
  have h1 := RpAll.laid hr nT (lvC k (by rw [hC]; simp)) hws
  have h2 := RpAll.keep (Kp.put (ex := C :: ex) (p := C) (o := .lst (vs ++ [.ref T])) (by simp)) _ _ h1
  rw [List.take_add_one, hc, List.map_append]
  exact h2
end NV
/-! U3 -/
set_option Elab.async false
set_option linter.all false
set_option maxRecDepth 100000
set_option maxHeartbeats 1000000
/-! the law's _law_triples -/
namespace NV
open PySem PySem.Spec PyProof.Rows L2
open C8 (pss_cut pe_gc)
abbrev sLawTriples : Stmt := topS 66
theorem scLawTriples : FnScope ["entries", "goal", "gone", "before", "start", "rows", "at", "names", "found", "name", "cell", "source", "entry"] ["entries", "goal", "gone"] (defScope sLawTriples) := ⟨rfl, rfl, rfl, by decide +kernel, rfl, by decide +kernel, by decide +kernel⟩
theorem pe_revLE {X : Cx} (K : PySem.W.Frag) {e : Expr} {te : TE} {k : Nat} {p1 p2 p3 pos : Pos} (he : PE X e te) (h : X.K = K := by rfl) : PE X (.Subscript e (.Slice none none (some (.UnaryOp .USub (.Constant (.int 1) k p1) p2)) p3) pos) (tRevL K te) := by
  rw [← h]; exact pe_revL he
def askD (q : Ask) : PyData := .tuple [.str q.1, .str q.2.1, .int (q.2.2 : Nat)]
def spTri : Sp := fun vs H Q _ => ∃ (v : V) (t g : Addr) (es : List Ent) (gone : List Str) (z c : Str) (k : Nat) (ex : List Addr), vs = [v, .ref t, .ref g] ∧ Rp ex H (logD es) v ∧ (∀ e ∈ es, e.Ok) ∧ es.length ≤ 60 ∧ H t = some (.tup [.str z, .str c]) ∧ PosOf es z k ∧ H g = some (.lst (gone.map V.str)) ∧ gone.length ≤ 1000 ∧ Live ex H ∧
  ∀ p H', Kp [] H H' → H p = none → Rp ex H' (.list ((depRows es gone z c k).map rowD)) (.ref p) → Q (.ref p) H'
theorem met_at {es : List Ent} {gone : List Str} {q : Ask} {j : Nat} (h : j ∈ metL (es.map (bl gone)) q q.2.2) : ∃ e, es[j]? = some e ∧ (es.map (bl gone))[j]? = some e := by
  obtain ⟨c, hc⟩ := reach_wr ((met_iff j).1 h)
  exact wr_live hc
section
variable {P : Program} {w : World} {K : PySem.W.Frag} {mg : Str → Option Value} {base : Heap}
theorem ok_tri (DLawTriples : Fn K mg "_law_triples" sLawTriples ["entries", "goal", "gone"]) (DLawMet : Fn K mg "_law_met" sLawMet ["entries", "goal", "gone"]) (DLawSnapshots : Fn K mg "_law_snapshots" sLawSnapshots ["entries", "gone"]) (b_enumerate : mg "enumerate" = none) (b_dict : mg "dict" = none) (b_len : mg "len" = none) (b_sorted : mg "sorted" = none) : FnOk P w K mg base CX0 3 DLawTriples.f DLawTriples.fd ["entries", "goal", "gone"] spTri := by
  refine DLawTriples.F.ok scLawTriples (fun vs H Q E h => ?_) (fun cdv A outer s H vs Q E hr h => ?_)
  · obtain ⟨v, t, g, es, gone, z, c, k, ex, rfl, _⟩ := h
    rfl
  obtain ⟨v, t, g, es, gone, z, c, k, ex, rfl, rv, ok, h60, ht, hpos, hg, hgl, lv, q⟩ := h
  obtain ⟨a, xs, rfl, na, ha, hx⟩ := id rv
  have GLawSnapshots := (ok_snaps (P := P) (w := w) (base := base) DLawSnapshots b_enumerate b_dict).mono (show 1 ≤ 2 by decide)
  have GLawMet := ok_met (P := P) (w := w) (base := base) DLawMet DLawSnapshots b_enumerate b_dict b_len b_sorted
  have line : (100000 : Nat) < sizeLine := by decide
  have hu := hu_of hr
  refine ⟨_, pss_cons (ps_set (i := 3) scLawTriples.nd rfl (.inl rfl) (pe_fn DLawSnapshots GLawSnapshots hr (pa_cons (pv 0) (pa_cons (pv 2) pa_nil))))
      (pss_cons (ps_set (i := 4) scLawTriples.nd rfl (.inl rfl) (pe_ix (ixlE K) (pe_op op_cat (pe_lc (own := [("at", 6), ("entry", 12)]) (g := gTup K 2 (gCons (gName 6) (gCons (gName 12) gNil))) (by rfl) scLawTriples.nd (pi_enumT K (by rfl) b_enumerate (pa_cons (pv 0) pa_nil)) (blkOk_by (N := ["entries", "goal", "gone", "before", "start", "rows", "at", "names", "found", "name", "cell", "source", "entry"]) (sc := defScope sLawTriples) (by decide +kernel)) (fun _ _ _ _ _ => (pg_tupE K (by rfl) (pgs_cons (pg_name (i := 6) scLawTriples.nd rfl (.inl rfl)) (pgs_cons (pg_name (i := 12) scLawTriples.nd rfl (.inl rfl)) pgs_nil)))) (fun _ _ _ _ _ => (pts_one (pt_cmpR op_eq (pe_ix (ixtE K) (pv 12) pe_int (fun _ _ => rfl)) (pe_ix (ixtE K) (pv 1) pe_int (fun _ _ => rfl)) (nomark _)))) (fun _ _ _ _ _ => (pv 6))) (pe_lst (pa_cons (pe_callB (lenE K) (by rfl) b_len (by decide +kernel) (pa_cons (pv 0) pa_nil)) pa_nil))) pe_int (fun _ _ => rfl)))
      (pss_cons (ps_set (i := 5) scLawTriples.nd rfl (.inl rfl) (pe_lst (pa_cons (pe_tup (pa_cons (pe_ix (ixtE K) (pv 1) pe_int (fun _ _ => rfl)) (pa_cons (pe_ix (ixtE K) (pv 1) pe_int (fun _ _ => rfl)) (pa_cons (pv 4) pa_nil)))) pa_nil)))
      (pss_cons (ps_for PassesOwn.never rfl (piListE K (pe_revLE K (pe_fn DLawMet GLawMet hr (pa_cons (pv 0) (pa_cons (pv 1) (pa_cons (pv 2) pa_nil)))))) (pg_name (i := 6) scLawTriples.nd rfl (.inr rfl))
      (pss_one (ps_expr (bmE K PySem.F.plainAttrs_list PySem.F.slot_list_extend PySem.F.type_list_extend mt_extend (pv 5) (pa_cons (pe_lc (own := [("cell", 10)]) (g := gName 10) (tt := tYes) (by rfl) scLawTriples.nd (piTupE K (pe_ix (ixtE K) (pe_ix (ixtE K) (pv 0) (pv 6) (fun _ _ => rfl)) pe_int (fun _ _ => rfl))) (blkOk_by (N := ["entries", "goal", "gone", "before", "start", "rows", "at", "names", "found", "name", "cell", "source", "entry"]) (sc := defScope sLawTriples) (by decide +kernel)) (fun _ _ _ _ _ => (pg_name (i := 10) scLawTriples.nd rfl (.inl rfl))) (fun _ _ _ _ _ => pts_nil) (fun _ _ _ _ _ => (pe_tup (pa_cons (pe_ix (ixtE K) (pe_ix (ixtE K) (pv 0) (pv 6) (fun _ _ => rfl)) pe_int (fun _ _ => rfl)) (pa_cons (pv 10) (pa_cons (pv 6) pa_nil)))))) pa_nil)))))
      (pss_cons (ps_setLc (i := 7) (own := [("entry", 12)]) (g := gName 12) (tt := tYes) (by rfl) scLawTriples.nd rfl rfl (sw_true rfl rfl rfl (by decide +kernel)) (piTupE K (pv 0)) (blkOk_by (N := ["entries", "goal", "gone", "before", "start", "rows", "at", "names", "found", "name", "cell", "source", "entry"]) (sc := defScope sLawTriples) (by decide +kernel)) (fun _ _ _ _ _ => (pg_name (i := 12) scLawTriples.nd rfl (.inl rfl))) (fun _ _ _ _ _ => pts_nil) (fun _ _ _ _ _ => (pe_ix (ixtE K) (pv 12) pe_int (fun _ _ => rfl))))
      (pss_cons (ps_set (i := 8) scLawTriples.nd rfl (.inl rfl) (pe_lst pa_nil))
      (pss_cons (ps_for PassesOwn.never rfl (piListE K (pv 5)) (pg_tupE K (by rfl) (pgs_cons (pg_name (i := 9) scLawTriples.nd rfl (.inl rfl)) (pgs_cons (pg_name (i := 10) scLawTriples.nd rfl (.inl rfl)) (pgs_cons (pg_name (i := 6) scLawTriples.nd rfl (.inr rfl)) pgs_nil))))
      (pss_cons (ps_set (i := 11) scLawTriples.nd rfl (.inl rfl) (pe_dget1 hu (pe_ix (ixlE K) (pv 3) (pv 6) (fun _ _ => rfl)) (pv 10) ⟨rfl, rfl, rfl, rfl⟩))
      (pss_one (ps_expr (bmE K PySem.F.plainAttrs_list PySem.F.slot_list_append PySem.F.type_list_append mt_append (pv 8) (pa_cons (pe_tup (pa_cons (pv 9) (pa_cons (pv 10) (pa_cons (pe_ifExp (pt_cmpR op_isN (pv 11) pe_non (nomark _)) pe_non (pe_ix (ixlE K) (pv 7) (pv 11) (fun _ _ => rfl))) pa_nil)))) pa_nil))))))
      (pss_one (ps_ret (pv 8))))))))), ?_⟩
  refine ⟨_, rfl, _, rfl, _, g, es, gone, ex, rfl, rv, ok, by omega, hg, hgl, lv, fun B H1 k1 snaps => ?_⟩
  have rv1 := Rp.keep (k1.mono (by simp)) _ _ rv
  have ht1 := k1 _ _ (by simp) ht
  refine st_start (K := K) (i := 6) (j := 12) (z := z) (c := c) (t := t) rfl rv1 ok h60 ht1 hpos (fun _ _ => rfl) (fun _ _ => rfl) (fun _ _ => rfl) (fun _ _ => rfl) fun H2 k2 => ?_
  have snaps2 := snaps.keep k2
  have k12 := k1.trans k2
  have ht2 := k2 _ _ (by simp) ht1
  have lv2 := lv.kp0 k12
  refine ⟨_, rfl, c_of ⟨t, _, _, _, rfl, rfl, .inl (.inl ht2), rfl, _, rfl, c_of ⟨t, _, _, _, rfl, rfl, .inl (.inl ht2), rfl, _, rfl, ?_⟩⟩⟩
  refine ⟨(by show 3 ≤ sizeLine; decide), fun T0 nT0 => ⟨(by show 1 ≤ sizeLine; decide), fun RP nRP => ?_⟩⟩
  have kT0 : Kp [] H2 (upd H2 T0 (.tup [.str z, .str c, .int (k : Nat)])) := Kp.laid nT0
  have hT0 : (upd H2 T0 (.tup [.str z, .str c, .int (k : Nat)])) T0 = some (.tup [.str z, .str c, .int (k : Nat)]) := upd_same
  generalize upd H2 T0 (.tup [.str z, .str c, .int (k : Nat)]) = H3 at kT0 hT0 nRP ⊢
  have kR : Kp [] H3 (upd H3 RP (.lst [.ref T0])) := Kp.laid nRP
  have hR4 : (upd H3 RP (.lst [.ref T0])) RP = some (.lst [.ref T0]) := upd_same
  have hT4 := kR _ _ (by simp) hT0
  have nTR : T0 ≠ RP := fun y => by rw [y, nRP] at hT0; cases hT0
  have k4 := k12.trans (kT0.trans kR)
  have nRP0 : H RP = none := kp_none (k12.trans kT0) nRP
  have nRP1 : H1 RP = none := kp_none (k2.trans kT0) nRP
  have k14 : Kp [] H1 (upd H3 RP (.lst [.ref T0])) := k2.trans (kT0.trans kR)
  generalize upd H3 RP (.lst [.ref T0]) = H4 at kR hR4 hT4 k4 k14 ⊢
  have back1 : ∀ {H' : Hp}, Kp [RP] H4 H' → Kp [] H1 H' := fun k => Kp.drop ((k14.mono (by simp)).trans k) nRP1
  have back : ∀ {H' : Hp}, Kp [RP] H4 H' → Kp [] H H' := fun k => k1.trans (back1 k)
  refine ⟨_, rfl, _, rfl, _, rfl, _, t, g, es, gone, z, c, k, ex, rfl, Rp.keep (k4.mono (by simp)) _ _ rv, ok, h60, k4 _ _ (by simp) ht, hpos, k4 _ _ (by simp) hg, hgl, lv.kp0 k4, fun MP H5 k5 nMP hMP => ?_⟩
  refine ⟨MP, _, rfl, .inl (.inl hMP), fun MR nMR => ?_⟩
  have kM : Kp [] H5 (upd H5 MR (.lst (posV (metL (es.map (bl gone)) (z, c, k) k).reverse).reverse)) := Kp.laid nMR
  have hMR : (upd H5 MR (.lst (posV (metL (es.map (bl gone)) (z, c, k) k).reverse).reverse)) MR = some (.lst (posV (metL (es.map (bl gone)) (z, c, k) k))) := by
    rw [upd_same]
    unfold posV
    rw [← List.map_reverse, List.reverse_reverse]
  have nMRR : MR ≠ RP := fun y => by rw [y, k5 _ _ (by simp) hR4] at nMR; cases nMR
  have k6 := k5.trans kM
  have hR6 := k6 _ _ (by simp) hR4
  have hT6 := k6 _ _ (by simp) hT4
  generalize upd H5 MR (.lst (posV (metL (es.map (bl gone)) (z, c, k) k).reverse).reverse) = H6 at kM hMR k6 hR6 hT6 ⊢
  have nd := falls_nodup (met_falls (es := es.map (bl gone)) (q := (z, c, k)) (Nat.le_refl _))
  have hml : (metL (es.map (bl gone)) (z, c, k) k).length ≤ 60 := by
    have h1 : List.length (metL (es.map (bl gone)) (z, c, k) k) ≤ k := nodup_below nd fun x hx => (met_range (Nat.le_refl _) x hx).2
    have := pos_le hpos
    omega
  have hat : ∀ {j : Nat}, j ∈ metL (es.map (bl gone)) (z, c, k) k → ∃ e, es[j]? = some e ∧ (es.map (bl gone))[j]? = some e := fun h => met_at (q := (z, c, k)) h
  have hdep : depRows es gone z c k = ((z, c, k) :: (metL (es.map (bl gone)) (z, c, k) k).flatMap (asksAt (es.map (bl gone)))).map (rowA (es.map (bl gone)) 0) := by
    unfold depRows rowsOf
    rw [asks_met]
  have hel : (es.map (bl gone)).length = es.length := List.length_map ..
  have hnm : ∀ j, nameAt (es.map (bl gone)) j = nameAt es j := fun j => by
    unfold nameAt
    rw [List.getElem?_map]
    cases es[j]? with
    | none => rfl
    | some e => exact bl_id gone e
  rw [hdep] at q
  generalize es.map (bl gone) = es' at snaps snaps2 hMR hMP q hat hel hnm nd hml hdep
  generalize hmlg : metL es' (z, c, k) k = ml at hMR hMP q hat hml nd hdep
  have rve : ∀ {H' : Hp} {j : Nat} {e : Ent}, Kp [] H H' → es[j]? = some e → ∃ x, H' a = some (.tup xs) ∧ xs[j]? = some x ∧ Rp ex H' e.data x := fun kk he => by
    obtain ⟨x, hxj, rx⟩ := RpAll.at hx (show (es.map Ent.data)[_]? = some _ by rw [List.getElem?_map, he]; rfl)
    exact ⟨x, kk _ _ (by simp) ha, hxj, Rp.keep (kk.mono (by simp)) _ _ rx⟩
  refine ⟨MR, rfl, ⟨_, .inl (.inl hMR)⟩, for_list (K := K) (a := MR) (xs := posV ml) (fun i σ H' => ∃ (c6 : Option V) (ys : List V), σ = [some (.ref a), some (.ref t), some (.ref g), some (.ref B), some (.int (k : Nat)), some (.ref RP), c6, none, none, none, none, none, none] ∧ Kp [RP] H6 H' ∧ H' RP = some (.lst ys) ∧ ys.length ≤ 1 + 3 * i ∧ RpAll [RP] H' (((z, c, k) :: (ml.take i).flatMap (asksAt es')).map askD) ys)
    ⟨none, [.ref T0], rfl, Kp.refl, hR6, Nat.le_refl _, RpAll.one ⟨T0, _, rfl, by simpa using nTR, hT6, ⟨_, _, rfl, rfl, _, _, rfl, rfl, _, _, rfl, rfl, rfl⟩⟩⟩ (fun i σ H' _ ⟨_, _, _, kk, _⟩ => .inl (.inl (kk _ _ (by simpa using nMRR) hMR))) ?_ ?_⟩
  · rintro i x σ H7 hxi ⟨c6, ys, rfl, k7, hR7, yl, hys⟩
    obtain ⟨j, hj, rfl⟩ : ∃ j, ml[i]? = some j ∧ V.int (j : Nat) = x := by
      unfold posV at hxi
      rw [List.getElem?_map] at hxi
      cases hcj : ml[i]? with
      | none => rw [hcj] at hxi; cases hxi
      | some j => rw [hcj] at hxi; exact ⟨j, rfl, Option.some.inj hxi⟩
    have hi := (List.getElem?_eq_some_iff.mp hj).1
    obtain ⟨e, he, he'⟩ := hat (List.mem_of_getElem? hj)
    have oke := ok e (List.mem_of_getElem? he)
    have k67 : Kp [RP] H4 H7 := (k6.mono (by simp)).trans k7
    obtain ⟨x, hax, hxj, rx⟩ := rve (back k67) he
    obtain ⟨ds, ed, h1, h2⟩ := ent_reads e
    refine ⟨_, rfl, .inl ⟨rfl, _, SqL.of hR7⟩, _, rfl, _, rfl, ⟨a, xs, _, x, rfl, rfl, .inl (.inl hax), atI_nat hxj, c_of (ent_ix rx ed h2 rfl fun u ru => ?_)⟩⟩
    obtain ⟨ra, cs, rfl, _, hra, hcs⟩ := ru
    obtain rfl := strs_of hcs
    refine ⟨ra, rfl, ⟨_, .inl (.inl hra)⟩, fun C nC => ?_⟩
    have nRC : RP ≠ C := fun y => by rw [← y, hR7] at nC; cases nC
    have lvR : Live [RP] H7 := fun b hb => by rw [List.mem_singleton.mp hb, hR7]; simp
    refine lc_rows (ex := [RP]) (fun cc => [.str e.id, .str cc, .int (j : Nat)]) (txt_tup hra) nC lvR (by have := oke.rs.2; omega) (fun _ => rfl) (fun cc H8 Q8 hcc k8 q8 => ?_) fun H8 vs k8 hC hr => ?_
    · obtain ⟨x', hax', hxj', rx'⟩ := rve ((back k67).trans k8) he
      refine ⟨_, rfl, _, rfl, ⟨a, xs, _, x', rfl, rfl, .inl (.inl hax'), atI_nat hxj', c_of (ent_ix rx' ed h1 rfl fun u ru => ?_)⟩⟩
      obtain rfl : u = .str e.id := ru
      exact ⟨_, rfl, _, rfl, (by show 3 ≤ sizeLine; decide), fun T nT => q8 T _ nT ⟨_, _, rfl, rfl, _, _, rfl, rfl, _, _, rfl, rfl, rfl⟩⟩
    · have hvl : vs.length ≤ 3 := by
        have := hr.length
        rw [List.length_map] at this
        have := oke.rs.2
        omega
      have k78 : Kp [RP] H6 H8 := k7.trans (k8.mono (by simp))
      have kX : Kp [RP] H8 (upd H8 RP (.lst (ys ++ vs))) := Kp.put (by simp)
      refine ⟨RP, C, _, _, rfl, rfl, k8 _ _ (by simp) hR7, hC, by omega, ⟨_, ys ++ vs, rfl, k78.trans kX, upd_same, by rw [List.length_append]; omega, ?_⟩⟩
      have h3 := RpAll.app (RpAll.keep (k8.mono (by simp)) _ _ hys) (RpAll.less (ex' := [RP]) (by simp) _ _ hr)
      have h4 := RpAll.keep kX _ _ h3
      have e3 : (((z, c, k) :: (ml.take (i + 1)).flatMap (asksAt es')).map askD) = (((z, c, k) :: (ml.take i).flatMap (asksAt es')).map askD) ++ e.rs.map fun cc => PyData.tuple [.str e.id, .str cc, .int (j : Nat)] := by
        rw [List.take_add_one, hj]
        show _ :: List.map askD (List.flatMap (asksAt es') (ml.take i ++ [j])) = _ :: _ ++ _
        rw [List.flatMap_append, List.map_append]
        have : (List.flatMap (asksAt es') [j]).map askD = e.rs.map fun cc => PyData.tuple [.str e.id, .str cc, .int (j : Nat)] := by
          rw [List.flatMap_singleton]
          unfold asksAt
          rw [he']
          show (e.rs.map _).map askD = _
          rw [List.map_map]
          rfl
        rw [this]
        rfl
      rw [e3]
      exact h4
  · rintro σ H7 ⟨c6, ys, rfl, k7, hR7, yl, hys⟩
    have hfull : ml.take (posV ml).length = ml := by rw [posV_len, List.take_length]
    rw [hfull] at hys
    rw [posV_len] at yl
    have hR7' := hR7
    have k67 : Kp [RP] H4 H7 := (k6.mono (by simp)).trans k7
    have kH7 := back k67
    have snaps7 := snaps.keep (back1 k67)
    have hl : es.length = xs.length := by
      have := hx.length
      rwa [List.length_map] at this
    -- the names
    refine ⟨_, rfl, a, rfl, ⟨_, .inl (.inl (kH7 _ _ (by simp) ha))⟩, fun NP nNP => ?_⟩
    have dN : ∀ {H' : Hp}, Kp [NP] (upd H7 NP (.lst [])) H' → Kp [] H7 H' := fun kk => Kp.drop (((Kp.laid (ex := []) nNP).mono (by simp)).trans kk) nNP
    refine lc_tup (K := K) (xs := xs) (fun i H' => Kp [NP] (upd H7 NP (.lst [])) H' ∧ H' NP = some (.lst ((es.take i).map fun e => V.str e.id))) ⟨Kp.refl, upd_same⟩ (fun i H' _ ⟨kk, _⟩ => .inl (.inl ((kH7.trans (dN kk)) _ _ (by simp) ha))) (fun i y H' hy ⟨kk, hN⟩ => ?_) fun H8 ⟨kk, hN⟩ => ?_
    · have hi := (List.getElem?_eq_some_iff.mp hy).1
      obtain ⟨e, he⟩ : ∃ e, es[i]? = some e := ⟨_, List.getElem?_eq_getElem (by omega)⟩
      obtain ⟨x, hax, hxj, rx⟩ := rve (kH7.trans (dN kk)) he
      rw [hy] at hxj
      obtain rfl := Option.some.inj hxj
      obtain ⟨ds, ed, h1, h2⟩ := ent_reads e
      refine ⟨rfl, yes_on ⟨_, rfl, c_of (ent_ix rx ed h1 rfl fun u ru => ?_)⟩⟩
      obtain rfl : u = .str e.id := ru
      refine ⟨_, hN, ?_, kk.trans (Kp.put (by simp)), ?_⟩
      · rw [List.length_map, List.length_take]
        omega
      · rw [upd_same, List.take_add_one, he, List.map_append]
        rfl
    have hfullN : es.take xs.length = es := by rw [← hl, List.take_length]
    rw [hfullN] at hN
    have k78 := dN kk
    have hR8 := k78 _ _ (by simp) hR7
    -- the list of the triples
    refine ⟨(by show 0 ≤ sizeLine; decide), fun FP nFP => ?_⟩
    have kF : Kp [] H8 (upd H8 FP (.lst [])) := Kp.laid nFP
    have hF9 : (upd H8 FP (.lst [])) FP = some (.lst []) := upd_same
    have hR9 := kF _ _ (by simp) hR8
    have hN9 := kF _ _ (by simp) hN
    have k79 := k78.trans kF
    have nRF : RP ≠ FP := fun y => by rw [← y, hR8] at nFP; cases nFP
    have nNF : NP ≠ FP := fun y => by rw [← y, hN] at nFP; cases nFP
    have nFP0 : H FP = none := kp_none (kH7.trans k78) nFP
    have lv9 : Live (FP :: ex) (upd H8 FP (.lst [])) := fun b hb => by
      rcases List.mem_cons.mp hb with e | e
      · rw [e, hF9]; simp
      · exact lv.kp0 (kH7.trans k79) b e
    have nFex : FP ∉ ex := fun y => lv FP y nFP0
    have nF1 : H1 FP = none := kp_none ((back1 k67).trans k78) nFP
    have hys9 : RpAll [FP] (upd H8 FP (.lst [])) (((z, c, k) :: ml.flatMap (asksAt es')).map askD) ys := RpAll.keep (kF.mono (by simp)) _ _ (RpAll.less (ex' := [FP]) (ex := FP :: [RP]) (by simp) _ _ (RpAll.apart nFP _ _ (RpAll.keep (k78.mono (by simp)) _ _ hys)))
    have k19 := (back1 k67).trans k79
    generalize upd H8 FP (.lst []) = H9 at kF hF9 hR9 hN9 k79 lv9 hys9 k19 ⊢
    have dF1 : ∀ {H' : Hp}, Kp [FP] H9 H' → Kp [] H1 H' := fun kk => Kp.drop ((k19.mono (by simp)).trans kk) nF1
    have hup : ∀ r ∈ (z, c, k) :: ml.flatMap (asksAt es'), r.2.2 ≤ es'.length := fun r hr => by
      rcases List.mem_cons.mp hr with e | e
      · rw [e, hel]
        exact pos_le hpos
      · obtain ⟨j, hj, hj2⟩ := List.mem_flatMap.mp e
        obtain ⟨e2, _, he'⟩ := hat hj
        unfold asksAt at hj2
        rw [he'] at hj2
        obtain ⟨cc, _, rfl⟩ := List.mem_map.mp hj2
        exact Nat.le_of_lt (List.getElem?_eq_some_iff.mp he').1
    generalize hqs : (z, c, k) :: ml.flatMap (asksAt es') = qs at hys9 hup q
    have hyl : qs.length = ys.length := by
      have := hys9.length
      rwa [List.length_map] at this
    refine ⟨_, rfl, RP, rfl, ⟨_, .inl (.inl hR9)⟩, for_list (K := K) (a := RP) (xs := ys) (fun i σ H' => ∃ (c6 c9 c10 c11 c12 : Option V) (fs : List V), σ = [some (.ref a), some (.ref t), some (.ref g), some (.ref B), some (.int (k : Nat)), some (.ref RP), c6, some (.ref NP), some (.ref FP), c9, c10, c11, c12] ∧ Kp [FP] H9 H' ∧ H' FP = some (.lst fs) ∧ fs.length = i ∧ RpAll (FP :: ex) H' (((qs.take i).map (rowA es' 0)).map rowD) fs)
      ⟨_, _, _, _, _, [], rfl, Kp.refl, hF9, rfl, rfl⟩ (fun i σ H' _ ⟨_, _, _, _, _, _, _, kk, _⟩ => .inl (.inl (kk _ _ (by simpa using nRF) hR9))) ?_ ?_⟩
    · rintro i x σ H10 hxi ⟨c6, c9, c10, c11, c12, fs, rfl, k10, hF10, fl, hfs⟩
      obtain ⟨d, hd, rx⟩ := RpAll.back (RpAll.keep k10 _ _ hys9) hxi
      obtain ⟨r, hr, rfl⟩ : ∃ r, qs[i]? = some r ∧ askD r = d := by
        rw [List.getElem?_map] at hd
        cases hcj : qs[i]? with
        | none => rw [hcj] at hd; cases hd
        | some r => rw [hcj] at hd; exact ⟨r, rfl, Option.some.inj hd⟩
      obtain ⟨T, vs, rfl, _, hT, v1, _, rfl, e1, v2, _, rfl, e2, v3, _, rfl, e3, e4⟩ := rx
      obtain rfl : v1 = .str r.1 := e1
      obtain rfl : v2 = .str r.2.1 := e2
      obtain rfl : v3 = .int (r.2.2 : Nat) := e3
      obtain rfl : _ = [] := e4
      refine ⟨T, _, rfl, .inl (.inl hT), rfl, _, _, rfl, _, _, rfl, _, _, rfl, rfl, ?_⟩
      obtain ⟨ds, d, hB, hd, sn⟩ := (snaps.keep (dF1 k10)).ix (i := r.2.2) (hup r (List.mem_of_getElem? hr))
      obtain ⟨isD, dget⟩ := sn.get r.2.1
      refine ⟨_, rfl, _, rfl, ix_lst hB hd rfl ⟨d, rfl, isD, _, rfl, _, dget, ?_⟩⟩
      rw [natV_get]
      refine ⟨_, rfl, .inl ⟨rfl, _, SqL.of hF10⟩, _, rfl, _, rfl, _, rfl, rfl, _, rfl, ?_⟩
      have fin : ∀ o : Option Str, rowD (rowA es' 0 r) = .tuple [.str r.1, .str r.2.1, optD o] → (3 ≤ sizeLine ∧ ∀ p, H10 p = none → rAppend (.ref FP) [.ref p] (upd H10 p (.tup [.str r.1, .str r.2.1, optV o])) fun _ H' => ∃ (d6 d9 d10 d11 d12 : Option V) (fs : List V), [some (.ref a), some (.ref t), some (.ref g), some (.ref B), some (.int (k : Nat)), some (.ref RP), some (.int (r.2.2 : Nat)), some (.ref NP), some (.ref FP), some (.str r.1), some (.str r.2.1), some (natV (lastIx es' r.2.2 r.2.1)), c12] = [some (.ref a), some (.ref t), some (.ref g), some (.ref B), some (.int (k : Nat)), some (.ref RP), d6, some (.ref NP), some (.ref FP), d9, d10, d11, d12] ∧ Kp [FP] H9 H' ∧ H' FP = some (.lst fs) ∧ fs.length = i + 1 ∧ RpAll (FP :: ex) H' (((qs.take (i + 1)).map (rowA es' 0)).map rowD) fs) := by
        intro o ho
        refine ⟨by decide, fun p np => ?_⟩
        have kp := Kp.laid (ex := []) (o := .tup [.str r.1, .str r.2.1, optV o]) np
        have hql : qs.length ≤ 400 := by omega
        have hil : i < qs.length := (List.getElem?_eq_some_iff.mp hr).1
        have lv10 : Live (FP :: ex) H10 := fun b hb => by
          by_cases hbF : b = FP
          · rw [hbF, hF10]; simp
          · cases h9 : H9 b with
            | none => exact absurd h9 (lv9 b hb)
            | some u => rw [k10 b u (by simpa using hbF) h9]; simp
        have h3 := RpAll.laid (es := [.str r.1, .str r.2.1, optD o]) hfs np lv10 ⟨_, _, rfl, rfl, _, _, rfl, rfl, optV o, [], rfl, (show Rp _ _ (optD o) (optV o) from by cases o <;> rfl), rfl⟩
        have kX : Kp [FP] (upd H10 p (.tup [.str r.1, .str r.2.1, optV o])) (upd (upd H10 p (.tup [.str r.1, .str r.2.1, optV o])) FP (.lst (fs ++ [.ref p]))) := Kp.put (by simp)
        refine ⟨FP, fs, _, rfl, rfl, kp _ _ (by simp) hF10, by omega, _, _, _, _, _, fs ++ [.ref p], rfl, (k10.trans (kp.mono (by simp))).trans kX, upd_same, by rw [List.length_append, fl]; rfl, ?_⟩
        have h4 := RpAll.keep (kX.mono (by simp)) _ _ h3
        rw [List.take_add_one, hr, List.map_append, List.map_append]
        have hd1 : List.map rowD (List.map (rowA es' 0) (some r).toList) = [.tuple [.str r.1, .str r.2.1, optD o]] := by rw [← ho]; rfl
        rw [hd1]
        exact h4
      cases ho : lastIx es' r.2.2 r.2.1 with
      | none =>
        rw [ho] at fin
        refine if_t ?_
        have hrow : rowA es' 0 r = (r.1, r.2.1, none) := by
          unfold rowA
          rw [ho]
          rfl
        exact fin none (by rw [hrow]; rfl)
      | some j =>
        rw [ho] at fin
        have hnn : decide (natV (some j) = V.non) = false := decide_eq_false (by show V.int (j : Nat) ≠ V.non; exact nofun)
        rw [hnn]
        refine if_f ?_
        have hj := lastIx_lt ho
        have hjl : j < es.length := by
          have := hup r (List.mem_of_getElem? hr)
          omega
        have hrow : rowA es' 0 r = (r.1, r.2.1, some (nameAt es' j)) := by
          unfold rowA
          rw [ho, shown_yes (Nat.zero_le _)]
        obtain ⟨e, he⟩ : ∃ e, es[j]? = some e := ⟨_, List.getElem?_eq_getElem hjl⟩
        refine ⟨_, rfl, _, rfl, ix_lst (x := .str (nameAt es' j)) (k10 _ _ (by simpa using nNF) hN9) ?_ rfl (fin (some (nameAt es' j)) (by rw [hrow]; rfl))⟩
        rw [List.getElem?_map, he, hnm]
        unfold nameAt
        rw [he]
        rfl
    · rintro σ H10 ⟨c6, c9, c10, c11, c12, fs, rfl, k10, hF10, fl, hfs⟩
      rw [← hyl, List.take_length] at hfs
      refine ⟨_, rfl, q FP H10 (k1.trans (dF1 k10)) nFP0 ⟨FP, fs, rfl, nFex, hF10, RpAll.less (fun b hb => List.mem_cons_of_mem _ hb) _ _ hfs⟩⟩
end
end NV
/-! U4 -/
set_option Elab.async false
set_option linter.all false
set_option maxRecDepth 100000
set_option maxHeartbeats 1000000
/-! the law's _law_targets -/
namespace NV
open PySem PySem.Spec PyProof.Rows L2
open C8 (pss_cut pe_gc)
abbrev sLawTargets : Stmt := topS 67
theorem scLawTargets : FnScope ["entries", "cells", "found", "entry", "cell"] ["entries", "cells"] (defScope sLawTargets) := ⟨rfl, rfl, rfl, by decide +kernel, rfl, by decide +kernel, by decide +kernel⟩
abbrev Goal2 := Str × Str
def goalD (q : Goal2) : PyData := .tuple [.str q.1, .str q.2]
def goalsAt (e : Ent) : List Goal2 := if e.isW then [] else e.rs.map fun c => (e.id, c)
def targetsL (es : List Ent) (cells : List Str) : List Goal2 := cells.map (fun c => (("" : Str), c)) ++ es.flatMap goalsAt
def spTgt : Sp := fun vs H Q _ => ∃ (v : V) (cl : Addr) (es : List Ent) (cells : List Str) (ex : List Addr), vs = [v, .ref cl] ∧ Rp ex H (logD es) v ∧ (∀ e ∈ es, e.Ok) ∧ es.length ≤ 60 ∧ H cl = some (.lst (cells.map V.str)) ∧ cells.length ≤ 100 ∧ Live ex H ∧
  ∀ p H', Kp [] H H' → H p = none → Rp ex H' (.list ((targetsL es cells).map goalD)) (.ref p) → Q (.ref p) H'
section
variable {P : Program} {w : World} {K : PySem.W.Frag} {mg : Str → Option Value} {base : Heap}
theorem ok_tgt (DLawTargets : Fn K mg "_law_targets" sLawTargets ["entries", "cells"]) : FnOk P w K mg base CX0 1 DLawTargets.f DLawTargets.fd ["entries", "cells"] spTgt := by
  refine DLawTargets.F.ok scLawTargets (fun vs H Q E h => ?_) (fun cdv A outer s H vs Q E hr h => ?_)
  · obtain ⟨v, cl, es, cells, ex, rfl, _⟩ := h
    rfl
  obtain ⟨v, cl, es, cells, ex, rfl, rv, ok, h60, hcl, hc100, lv, q⟩ := h
  obtain ⟨a, xs, rfl, na, ha, hx⟩ := id rv
  have line : (100000 : Nat) < sizeLine := by decide
  have hu := hu_of hr
  have hl : es.length = xs.length := by
    have := hx.length
    rwa [List.length_map] at this
  refine ⟨_, pss_cons (ps_setLc (i := 2) (own := [("cell", 4)]) (g := gName 4) (tt := tYes) (by rfl) scLawTargets.nd rfl rfl (sw_true rfl rfl rfl (by decide +kernel)) (piListE K (pv 1)) (blkOk_by (N := ["entries", "cells", "found", "entry", "cell"]) (sc := defScope sLawTargets) (by decide +kernel)) (fun _ _ _ _ _ => (pg_name (i := 4) scLawTargets.nd rfl (.inl rfl))) (fun _ _ _ _ _ => pts_nil) (fun _ _ _ _ _ => (pe_tup (pa_cons pe_str (pa_cons (pv 4) pa_nil)))))
      (pss_cons (ps_for PassesOwn.never rfl (piTupE K (pv 0)) (pg_name (i := 3) scLawTargets.nd rfl (.inr rfl))
      (pss_one (ps_if (pt_cmpR op_eq (pe_ix (ixtE K) (pv 3) pe_int (fun _ _ => rfl)) pe_str (nomark _))
      (pss_one (ps_expr (bmE K PySem.F.plainAttrs_list PySem.F.slot_list_extend PySem.F.type_list_extend mt_extend (pv 2) (pa_cons (pe_lc (own := [("cell", 4)]) (g := gName 4) (tt := tYes) (by rfl) scLawTargets.nd (piTupE K (pe_ix (ixtE K) (pv 3) pe_int (fun _ _ => rfl))) (blkOk_by (N := ["entries", "cells", "found", "entry", "cell"]) (sc := defScope sLawTargets) (by decide +kernel)) (fun _ _ _ _ _ => (pg_name (i := 4) scLawTargets.nd rfl (.inl rfl))) (fun _ _ _ _ _ => pts_nil) (fun _ _ _ _ _ => (pe_tup (pa_cons (pe_ix (ixtE K) (pv 3) pe_int (fun _ _ => rfl)) (pa_cons (pv 4) pa_nil))))) pa_nil))))
      pss_nil)))
      (pss_one (ps_ret (pv 2)))), ?_⟩
  refine ⟨_, rfl, cl, rfl, ⟨_, .inl (.inl hcl)⟩, fun FP nFP => ?_⟩
  refine lc_rows (ex := ex) (fun cc => [.str "", .str cc]) (txt_lst hcl) nFP lv (by omega) (fun _ => rfl) (fun cc H8 Q8 hcc k8 q8 => ?_) fun H1 fs k1 hF1 hfs => ?_
  · exact ⟨_, rfl, (by show 2 ≤ sizeLine; decide), fun T nT => q8 T _ nT ⟨_, _, rfl, rfl, _, _, rfl, rfl, rfl⟩⟩
  have nFex : FP ∉ ex := fun y => lv FP y nFP
  have back : ∀ {H' : Hp}, Kp [FP] H1 H' → Kp [] H H' := fun kk => Kp.drop ((k1.mono (by simp)).trans kk) nFP
  have rve : ∀ {H' : Hp} {j : Nat} {e : Ent}, Kp [] H H' → es[j]? = some e → ∃ x, H' a = some (.tup xs) ∧ xs[j]? = some x ∧ Rp ex H' e.data x := fun kk he => by
    obtain ⟨x, hxj, rx⟩ := RpAll.at hx (show (es.map Ent.data)[_]? = some _ by rw [List.getElem?_map, he]; rfl)
    exact ⟨x, kk _ _ (by simp) ha, hxj, Rp.keep (kk.mono (by simp)) _ _ rx⟩
  have hfl : fs.length = cells.length := by
    have := hfs.length
    rw [List.length_map] at this
    exact this.symm
  refine ⟨_, rfl, a, rfl, ⟨_, .inl (.inl (k1 _ _ (by simp) ha))⟩, for_tup (K := K) (a := a) (xs := xs) (fun i σ H' => ∃ (c3 : Option V) (fs : List V), σ = [some (.ref a), some (.ref cl), some (.ref FP), c3, none] ∧ Kp [FP] H1 H' ∧ H' FP = some (.lst fs) ∧ fs.length ≤ cells.length + 3 * i ∧ RpAll (FP :: ex) H' ((cells.map (fun c => (("" : Str), c)) ++ (es.take i).flatMap goalsAt).map goalD) fs)
    ⟨_, fs, rfl, Kp.refl, hF1, by omega, ?_⟩ (fun i σ H' _ ⟨_, _, _, kk, _⟩ => .inl (.inl (back kk _ _ (by simp) ha))) ?_ ?_⟩
  · rw [List.take_zero, List.flatMap_nil, List.append_nil, List.map_map]
    exact hfs
  · rintro i x σ H2 hxi ⟨c3, fs, rfl, k2, hF2, fl, hfs⟩
    have hi := (List.getElem?_eq_some_iff.mp hxi).1
    obtain ⟨e, he⟩ : ∃ e, es[i]? = some e := ⟨_, List.getElem?_eq_getElem (by omega)⟩
    have oke := ok e (List.mem_of_getElem? he)
    obtain ⟨x', hax, hxj, rx⟩ := rve (back k2) he
    rw [hxi] at hxj
    obtain rfl := Option.some.inj hxj
    obtain ⟨dk, edk, hk⟩ := ent_kind e
    obtain ⟨ds, ed, h1, h2⟩ := ent_reads e
    have htk : es.take (i + 1) = es.take i ++ [e] := by rw [List.take_add_one, he]; rfl
    refine ⟨_, rfl, c_of (ent_ix rx edk hk rfl fun u ru => ?_)⟩
    obtain rfl : u = .str (if e.isW then "write" else "query") := ru
    refine c_of ⟨by cases e.isW <;> rfl, _, rfl, ?_⟩
    cases hw : e.isW with
    | true =>
      refine if_f ⟨_, fs, rfl, k2, hF2, by omega, ?_⟩
      rw [htk, List.flatMap_append, List.flatMap_singleton]
      unfold goalsAt
      rw [hw, if_pos rfl, List.append_nil]
      exact hfs
    | false =>
      refine if_t ⟨_, rfl, .inl ⟨rfl, _, SqL.of hF2⟩, _, rfl, c_of (ent_ix rx ed h2 rfl fun u ru => ?_)⟩
      obtain ⟨ra, cs, rfl, _, hra, hcs⟩ := ru
      obtain rfl := strs_of hcs
      refine ⟨ra, rfl, ⟨_, .inl (.inl hra)⟩, fun C nC => ?_⟩
      have nFC : FP ≠ C := fun y => by rw [← y, hF2] at nC; cases nC
      have lv2 : Live (FP :: ex) H2 := fun b hb => by
        rcases List.mem_cons.mp hb with e | e
        · rw [e, hF2]; simp
        · exact lv.kp0 (back k2) b e
      refine lc_rows (ex := FP :: ex) (fun cc => [.str e.id, .str cc]) (txt_tup hra) nC lv2 (by have := oke.rs.2; omega) (fun _ => rfl) (fun cc H8 Q8 hcc k8 q8 => ?_) fun H3 vs k3 hC hr => ?_
      · refine ⟨_, rfl, c_of (ent_ix (Rp.keep (k8.mono (by simp)) _ _ rx) ed h1 rfl fun u ru => ?_)⟩
        obtain rfl : u = .str e.id := ru
        exact ⟨_, rfl, (by show 2 ≤ sizeLine; decide), fun T nT => q8 T _ nT ⟨_, _, rfl, rfl, _, _, rfl, rfl, rfl⟩⟩
      · have hvl : vs.length ≤ 3 := by
          have := hr.length
          rw [List.length_map] at this
          have := oke.rs.2
          omega
        have kX : Kp [FP] H3 (upd H3 FP (.lst (fs ++ vs))) := Kp.put (by simp)
        refine ⟨FP, C, _, _, rfl, rfl, k3 _ _ (by simp) hF2, hC, by omega, ⟨_, fs ++ vs, rfl, (k2.trans (k3.mono (by simp))).trans kX, upd_same, by rw [List.length_append]; omega, ?_⟩⟩
        have h3 := RpAll.app (RpAll.keep (k3.mono (by simp)) _ _ hfs) (RpAll.less (ex' := FP :: ex) (fun b hb => List.mem_cons_of_mem _ hb) _ _ hr)
        have h4 := RpAll.keep (kX.mono (by simp)) _ _ h3
        rw [htk, List.flatMap_append, List.flatMap_singleton, ← List.append_assoc, List.map_append]
        have : (goalsAt e).map goalD = e.rs.map fun cc => PyData.tuple [.str e.id, .str cc] := by
          unfold goalsAt
          rw [hw, if_neg Bool.false_ne_true, List.map_map]
          rfl
        rw [this]
        exact h4
  · rintro σ H2 ⟨c3, fs, rfl, k2, hF2, fl, hfs⟩
    rw [← hl, List.take_length] at hfs
    exact ⟨_, rfl, q FP H2 (back k2) nFP ⟨FP, fs, rfl, nFex, hF2, RpAll.less (fun b hb => List.mem_cons_of_mem _ hb) _ _ hfs⟩⟩
end
end NV
/-! M2a -/
set_option Elab.async false
set_option linter.all false
set_option maxRecDepth 100000
set_option maxHeartbeats 1000000
/-! logs, cut and joined: what needs no costs -/
namespace NV
open PySem PySem.Spec PyProof.Rows L2
theorem DrAt.live {D : Dr} {n : Nat} {H : Hp} (d : DrAt D n H) : Live D.ex H := fun b hb => by
  obtain ⟨_, large, items, left, turn, h1, h2, _⟩ := d
  rcases List.mem_cons.mp hb with z | z
  · rw [z, h1]; exact fun q => nomatch q
  · rw [List.mem_singleton.mp z, h2]; exact fun q => nomatch q
theorem cut_init (xs : List V) : cutV xs none (some (-1)) = xs.take (xs.length - 1) := by
  unfold cutV
  rw [HT.sIx_none]
  show (xs.drop 0).take (((-1 : Int) + (xs.length : Int)).toNat - 0) = _
  rw [List.drop_zero]
  congr 1
  omega
theorem atI_end {xs : List V} {v : V} (h : xs[xs.length - 1]? = some v) : atI xs (-1) = some v := by
  have hl := (List.getElem?_eq_some_iff.mp h).1
  have e : xs = xs.take (xs.length - 1) ++ [v] := by
    have := List.take_append_drop (xs.length - 1) xs
    rw [List.drop_eq_getElem_cons hl] at this
    rw [(List.getElem?_eq_some_iff.mp h).2] at this
    rw [show xs.length - 1 + 1 = xs.length by omega, List.drop_length] at this
    exact this.symm
  rw [e]
  exact atI_last _ v
theorem ixEnd {K : PySem.W.Frag} {ex : List Addr} {H : Hp} {a : Addr} {xs : List V} {ds : List PyData} {d : PyData} {Q : VK} (ha : H a = some (.tup xs)) (hx : RpAll ex H ds xs) (hj : ds[ds.length - 1]? = some d) (q : ∀ v, Rp ex H d v → Q v H) : rIxT K (.ref a) (.int (-1)) H Q := by
  obtain ⟨v, hv, rv⟩ := RpAll.at hx hj
  rw [hx.length] at hv
  exact ⟨a, xs, -1, v, rfl, rfl, .inl (.inl ha), atI_end hv, q v rv⟩
theorem ne_strs {K : PySem.W.Frag} {H : Hp} {a b : Addr} {zs : List Str} {Q : VK} (ha : SqL K H a (zs.map V.str)) (hb : SqL K H b (zs.map V.str)) (oz : ∀ z ∈ zs, PyData.strOk z = true) (q : Q (.bl false) H) : rNeD K (.ref a) (.ref b) H Q := by
  refine ⟨_, _, .lst ha (dpAll_strs zs), .lst hb (dpAll_strs zs), shaped_strs zs oz, shaped_strs zs oz, ?_⟩
  rw [eqv_strs, decide_eq_true rfl]
  exact q
theorem range_get {α : Type} (l : List α) (d : α) : (List.range l.length).map (fun j => l.getD j d) = l := by
  apply List.ext_getElem
  · simp
  · intro j h1 h2
    simp [List.getD_eq_getElem?_getD, List.getElem?_eq_getElem h2]
theorem range_names (es : List Ent) (d : Ent) : ((List.range es.length).filter (fun j => (es.getD j d).isW)).map (fun j => V.str (es.getD j d).id) = ((es.filter Ent.isW).map Ent.id).map V.str := by
  have e := range_get es d
  have h1 : es.filter Ent.isW = ((List.range es.length).filter (fun j => (es.getD j d).isW)).map (fun j => es.getD j d) := by
    conv => lhs; rw [← e]
    rw [List.filter_map]
    rfl
  rw [h1, List.map_map, List.map_map]
  rfl
theorem LogOk.sub {es es' : List Ent} (h : LogOk es) (s : List.Sublist es' es) : LogOk es' := ⟨fun e he => h.ok e (s.subset he), h.nd.sublist (s.map _)⟩
theorem split_at_ {es : List Ent} {k : Nat} {e : Ent} (h : es[k]? = some e) : es = es.take k ++ e :: es.drop (k + 1) := by
  obtain ⟨hk, he⟩ := List.getElem?_eq_some_iff.mp h
  rw [← he, ← List.drop_eq_getElem_cons hk, List.take_append_drop]
theorem split_last {es : List Ent} {e : Ent} (h : es[es.length - 1]? = some e) : es = es.take (es.length - 1) ++ [e] := by
  have hl := (List.getElem?_eq_some_iff.mp h).1
  have := split_at_ h
  rw [show es.length - 1 + 1 = es.length by omega, List.drop_length] at this
  exact this
theorem idB_ok {z : Str} (h : idB z = true) : PyData.strOk z = true := (word_len h).2
theorem Ent.Ok.idOk {e : Ent} (h : e.Ok) : idB e.id = true := by
  cases e with
  | wr id rs ws pr => exact h.1
  | qu id cs => exact h.1
end NV
/-! Y2a -/
set_option Elab.async false
set_option linter.all false
set_option maxRecDepth 100000
set_option maxHeartbeats 600000
/-! calls by keywords; equal logs -/
namespace NV
open PySem PySem.Spec PyProof.Rows L2
open C8 (pss_cut pe_gc)
/-- a def of the top, called with keywords -/
structure FnK (K : PySem.W.Frag) (mg : Str → Option Value) (nm : Str) (st : Stmt) (ps : List Str) (n : Nat) (ks : List Str) : Type where
  f : Addr
  fd : FuncData
  F : Fun K nm nm st f fd
  m : mg nm = some (.ref f)
  b : KBn K fd ps n ks (· ++ ·) (· ++ ·)
section
variable {K : PySem.W.Frag} {h : Heap} {mg : Str → Option Value} {nm : Str} {st : Stmt}
theorem fnk_at {ps ks : List Str} {n : Nat} (X : K.In h) (G : h.Ns mainGlobals mg) (a : At K nm st)
    (hb : ∀ (kV doc pm : Value) (an : Option Addr) (cdv ct : Value) (us ws : List Value), us.length = n → ws.length = ks.length → bindArgs (PySem.W.fnOf nm nm (defArgs st) (defBody st) (defScope st) .none kV doc pm an cdv ct) ⟨us, ks.zip ws⟩ = pure (ps.zip (us ++ ws))) : Nonempty (FnK K mg nm st ps n ks) := by
  obtain ⟨f, oc, od, kV, doc, pm, an, cd, ct, sl, a1, l1, c1, k1⟩ := a
  have F := fun_mk (st := st) l1 c1 k1
  have hb2 : KBn K _ ps n ks (· ++ ·) (· ++ ·) := ⟨fun s us ws _ h1 h2 => .of_eq (hb kV doc pm an cd ct us ws h1 h2), fun r1 r2 => r1.append r2⟩
  exact ⟨⟨f, _, F, PySem.W.mg_of X G a1, hb2⟩⟩
end
section
variable {X : Cx} {nm : Str} {st : Stmt} {ps ks : List Str} {sp : Sp} {e : Expr} {es : List Expr} {kws : List Keyword} {t tk : TA} {p pos : Pos} {j k n : Nat}
theorem pe_fk (D : FnK X.K X.mg nm st ps n ks) (G : FnOk X.prog X.w X.K X.mg X.base CX0 j D.f D.fd ps sp) (hr : Room k X.A) (ha : PA X (e :: es) t) (hkw : PK X kws tk)
    (hk : j ≤ k := by decide) (hg : Gl X nm := by rfl) (hall : ((backToKw pos (keywordEach kws X.env)).all (·.1.isSome)) = true := by rfl) (hks : (backToKw pos (keywordEach kws X.env)).filterMap (·.1) = ks := by rfl) (hdb : (nm == ("__debug__" : Str)) = false := by decide)
    (he : starEach (e :: es) X.env = (false, eval e X.env) :: starEach es X.env := by rfl) (hpl : (((backTo pos (starEach (e :: es) X.env)).any (·.1)) || ((backToKw pos (keywordEach kws X.env)).any (·.1.isNone))) = false := by rfl) :
    PE X (.Call (.Name nm p) (e :: es) kws pos) (tCallN n ks.length sp (· ++ ·) (fun _ _ _ => False) t tk) := pe_callN G (hr.mono hk) hg D.m D.F.kp D.b pass0 ha hkw hall hks hdb he hpl
end
/-! ### equal logs -/
mutual
theorem Rp.dp {K : PySem.W.Frag} {ex : List Addr} {H : Hp} : ∀ (d : PyData) (v : V), niceD d = true → d.canLay0 = true → Rp ex H d v → Dp K H v d
  | .none, _, _, _, h => by obtain rfl : _ = V.non := h; exact .non
  | .bool b, _, _, _, h => by obtain rfl : _ = V.bl b := h; exact .bl b
  | .int i, _, _, _, h => by obtain rfl : _ = V.int i := h; exact .int i
  | .str z, _, _, _, h => by obtain rfl : _ = V.str z := h; exact .str z
  | .list ds, v, n, c, h => by
    obtain ⟨a, xs, rfl, _, ha, hx⟩ := h
    exact .lst (.inl (.inl ha)) (RpAll.dp ds xs (by simpa only [niceD] using n) (by simpa only [PyData.canLay0] using c) hx)
  | .tuple ds, v, n, c, h => by
    obtain ⟨a, xs, rfl, _, ha, hx⟩ := h
    exact .tup (.inl (.inl ha)) (RpAll.dp ds xs (by simpa only [niceD] using n) (by simpa only [PyData.canLay0] using c) hx)
  | .dict kvs, v, _, c, h => by simp only [PyData.canLay0] at c; cases c
theorem RpAll.dp {K : PySem.W.Frag} {ex : List Addr} {H : Hp} : ∀ (ds : List PyData) (vs : List V), niceAll ds = true → PyData.canLayAll0 ds = true → RpAll ex H ds vs → DpAll K H vs ds
  | [], vs, _, _, h => by obtain rfl : vs = [] := h; exact .nil
  | d :: ds, vs, n, c, h => by
    obtain ⟨v, ws, rfl, h1, h2⟩ := h
    simp only [niceAll, Bool.and_eq_true] at n
    simp only [PyData.canLayAll0, Bool.and_eq_true] at c
    exact .cons (Rp.dp d v n.1 c.1 h1) (RpAll.dp ds ws n.2 c.2 h2)
end
theorem lay_names : ∀ zs : List Str, (∀ z ∈ zs, PyData.strOk z = true) → PyData.canLayAll0 (zs.map PyData.str) = true
  | [], _ => rfl
  | z :: zs, h => by
    rw [List.map_cons]
    simp only [PyData.canLayAll0, PyData.canLay0, Bool.and_eq_true]
    exact ⟨h z List.mem_cons_self, lay_names zs fun y hy => h y (List.mem_cons_of_mem _ hy)⟩
theorem lay_cells {l : Nat} {cs : List Str} (h : CellsOk l cs) : PyData.canLayAll0 (cs.map PyData.str) = true := lay_names cs fun z hz => (word_len (h.ok z hz)).2
theorem lay_ent {e : Ent} (h : e.Ok) : e.data.canLay0 = true := by
  have wr : PyData.strOk "write" = true := by decide +kernel
  have qu : PyData.strOk "query" = true := by decide +kernel
  cases e with
  | wr id rs ws pr =>
    obtain ⟨h1, h2, h3, _⟩ := h
    unfold Ent.data
    simp only [PyData.canLay0, PyData.canLayAll0, Bool.and_eq_true]
    refine ⟨wr, idB_ok h1, lay_cells h2, lay_cells h3, ?_, trivial⟩
    cases pr <;> rfl
  | qu id cs =>
    obtain ⟨h1, h2⟩ := h
    unfold Ent.data
    simp only [PyData.canLay0, PyData.canLayAll0, Bool.and_eq_true]
    exact ⟨qu, idB_ok h1, lay_cells h2, trivial⟩
theorem lay_log : ∀ {es : List Ent}, (∀ e ∈ es, e.Ok) → PyData.canLayAll0 (es.map Ent.data) = true
  | [], _ => rfl
  | e :: es, h => by
    rw [List.map_cons]
    simp only [PyData.canLayAll0, Bool.and_eq_true]
    exact ⟨lay_ent (h e List.mem_cons_self), lay_log fun u hu => h u (List.mem_cons_of_mem _ hu)⟩
theorem lay_logD {es : List Ent} (h : ∀ e ∈ es, e.Ok) : (logD es).canLay0 = true := by
  unfold logD
  simp only [PyData.canLay0]
  exact lay_log h
theorem shaped_log {es : List Ent} (h : ∀ e ∈ es, e.Ok) : SeqAt.shaped (logD es) = true := by
  have := (log_nice h).2.1
  unfold SeqAt.shaped
  rw [lay_logD h]
  exact decide_eq_true (by show PyData.depth (.tuple (es.map Ent.data)) ≤ 64; omega)
theorem eq_logs {K : PySem.W.Frag} {ex ex' : List Addr} {H : Hp} {v u : V} {es : List Ent} {Q : VK} (ok : ∀ e ∈ es, e.Ok) (hv : Rp ex H (logD es) v) (hu : Rp ex' H (logD es) u) (q : Q (.bl true) H) : rEqD K v u H Q := by
  refine ⟨_, _, Rp.dp _ _ (log_nice ok).1 (lay_logD ok) hv, Rp.dp _ _ (log_nice ok).1 (lay_logD ok) hu, shaped_log ok, shaped_log ok, ?_⟩
  have e := SeqAt.eqv_refl _ (lay_logD ok)
  unfold logD at e
  rw [e]
  exact q
theorem ne_logs {K : PySem.W.Frag} {ex ex' : List Addr} {H : Hp} {v u : V} {es : List Ent} {Q : VK} (ok : ∀ e ∈ es, e.Ok) (hv : Rp ex H (logD es) v) (hu : Rp ex' H (logD es) u) (q : Q (.bl false) H) : rNeD K v u H Q := by
  refine ⟨_, _, Rp.dp _ _ (log_nice ok).1 (lay_logD ok) hv, Rp.dp _ _ (log_nice ok).1 (lay_logD ok) hu, shaped_log ok, shaped_log ok, ?_⟩
  have e := SeqAt.eqv_refl _ (lay_logD ok)
  unfold logD at e
  rw [e]
  exact q
end NV
/-! DataOk -/
set_option Elab.async false
set_option linter.all false
set_option maxRecDepth 100000
set_option maxHeartbeats 600000
/-! data within bounds, compared -/
namespace NV
open PySem PySem.Spec PyProof.Rows L2
/-- a text within bounds -/
def TxtOk (z : Str) : Prop := z.length ≤ 100 ∧ PyData.strOk z = true
structure DOk (n : Nat) (d : PyData) : Prop where
  nice : niceD d = true
  lay : d.canLay0 = true
  deep : d.depth ≤ n
theorem DOk.str {n : Nat} {z : Str} (h : TxtOk z) : DOk n (.str z) := ⟨by simp only [niceD, Bool.and_eq_true, decide_eq_true_eq]; exact h, by simp only [PyData.canLay0]; exact h.2, by simp only [PyData.depth]; exact Nat.zero_le _⟩
theorem DOk.non {n : Nat} : DOk n .none := ⟨rfl, rfl, by simp only [PyData.depth]; exact Nat.zero_le _⟩
theorem DOk.all {n : Nat} : ∀ {ds : List PyData}, (∀ d ∈ ds, DOk n d) → niceAll ds = true ∧ PyData.canLayAll0 ds = true ∧ PyData.depthAll ds ≤ n
  | [], _ => ⟨rfl, rfl, by simp only [PyData.depthAll]; exact Nat.zero_le _⟩
  | d :: ds, h => by
    obtain ⟨h1, h2, h3⟩ := DOk.all (ds := ds) fun x hx => h x (List.mem_cons_of_mem _ hx)
    have hd := h d List.mem_cons_self
    refine ⟨?_, ?_, ?_⟩
    · simp only [niceAll, Bool.and_eq_true]
      exact ⟨hd.nice, h1⟩
    · simp only [PyData.canLayAll0, Bool.and_eq_true]
      exact ⟨hd.lay, h2⟩
    · simp only [PyData.depthAll]
      exact Nat.max_le.mpr ⟨hd.deep, h3⟩
theorem DOk.tup {n : Nat} {ds : List PyData} (h : ∀ d ∈ ds, DOk n d) : DOk (n + 1) (.tuple ds) := by
  obtain ⟨h1, h2, h3⟩ := DOk.all h
  exact ⟨by simp only [niceD]; exact h1, by simp only [PyData.canLay0]; exact h2, by simp only [PyData.depth]; omega⟩
theorem DOk.lst {n : Nat} {ds : List PyData} (h : ∀ d ∈ ds, DOk n d) : DOk (n + 1) (.list ds) := by
  obtain ⟨h1, h2, h3⟩ := DOk.all h
  exact ⟨by simp only [niceD]; exact h1, by simp only [PyData.canLay0]; exact h2, by simp only [PyData.depth]; omega⟩
theorem DOk.shaped {n : Nat} {d : PyData} (h : DOk n d) (hn : n ≤ 64 := by decide) : SeqAt.shaped d = true := by
  unfold SeqAt.shaped
  rw [h.lay]
  exact decide_eq_true (Nat.le_trans h.deep hn)
theorem ne_ok {K : PySem.W.Frag} {ex ex' : List Addr} {H : Hp} {v u : V} {d : PyData} {n : Nat} {Q : VK} (h : DOk n d) (hv : Rp ex H d v) (hu : Rp ex' H d u) (q : Q (.bl false) H) (hn : n ≤ 64 := by decide) : rNeD K v u H Q := by
  refine ⟨d, d, Rp.dp _ _ h.nice h.lay hv, Rp.dp _ _ h.nice h.lay hu, h.shaped hn, h.shaped hn, ?_⟩
  rw [SeqAt.eqv_refl _ h.lay]
  exact q
theorem eq_ok {K : PySem.W.Frag} {ex ex' : List Addr} {H : Hp} {v u : V} {d : PyData} {n : Nat} {Q : VK} (h : DOk n d) (hv : Rp ex H d v) (hu : Rp ex' H d u) (q : Q (.bl true) H) (hn : n ≤ 64 := by decide) : rEqD K v u H Q := by
  refine ⟨d, d, Rp.dp _ _ h.nice h.lay hv, Rp.dp _ _ h.nice h.lay hu, h.shaped hn, h.shaped hn, ?_⟩
  rw [SeqAt.eqv_refl _ h.lay]
  exact q
theorem idB_txt {z : Str} (h : idB z = true) : TxtOk z := ⟨by have := (word_len h).1; omega, (word_len h).2⟩
theorem cellB_txt {z : Str} (h : cellB z = true) : TxtOk z := ⟨by have := (word_len h).1; omega, (word_len h).2⟩
theorem nil_txt : TxtOk ("" : Str) := ⟨by decide, by decide +kernel⟩
/-- a list of texts, as data -/
theorem strs_list {ex : List Addr} {H : Hp} {a : Addr} {zs : List Str} (hn : a ∉ ex) (h : H a = some (.lst (zs.map V.str))) : Rp ex H (.list (zs.map PyData.str)) (.ref a) := ⟨a, _, rfl, hn, h, RpAll.strs zs⟩
theorem strs_ok {zs : List Str} (h : ∀ z ∈ zs, TxtOk z) : DOk 1 (.list (zs.map PyData.str)) := DOk.lst fun d hd => by
  obtain ⟨z, hz, rfl⟩ := List.mem_map.mp hd
  exact DOk.str (h z hz)
end NV
/-! T6 -/
set_option Elab.async false
set_option linter.all false
set_option maxRecDepth 100000
set_option maxHeartbeats 600000
/-! the rows' sources are the positions met; the rows are within bounds -/
namespace NV
open PySem PySem.Spec PyProof.Rows L2
theorem name_bl (es : List Ent) (gone : List Str) (j : Nat) : nameAt (es.map (bl gone)) j = nameAt es j := by
  unfold nameAt
  rw [List.getElem?_map]
  cases es[j]? with
  | none => rfl
  | some e => exact bl_id gone e
theorem name_at {es : List Ent} {j : Nat} {e : Ent} (h : es[j]? = some e) : nameAt es j = e.id := by
  unfold nameAt
  rw [h]
theorem src_iff {es : List Ent} {q : Ask} {z : Str} : srcIn (rowsOf es q) z = true ↔ ∃ j, Reach es q j ∧ nameAt es j = z := by
  unfold srcIn rowsOf
  rw [List.any_eq_true]
  constructor
  · rintro ⟨r, hr, h⟩
    obtain ⟨a, ha, rfl⟩ := List.mem_map.mp hr
    have h : shown es 0 (lastIx es a.2.2 a.2.1) = some z := of_decide_eq_true h
    cases hl : lastIx es a.2.2 a.2.1 with
    | none => rw [hl] at h; cases h
    | some j =>
      rw [hl, shown_yes (Nat.zero_le _)] at h
      refine ⟨j, ?_, Option.some.inj h⟩
      rcases asks_reach (Nat.le_refl _) a ha with rfl | ⟨j1, e1, c1, R, he, hc, rfl⟩
      · exact .base hl
      · exact .step R he hc hl
  · rintro ⟨j, R, rfl⟩
    obtain ⟨_, a, ha, hl⟩ := (mem_met (Nat.le_refl _) j).1 ((met_iff j).2 R)
    refine ⟨_, List.mem_map.mpr ⟨a, ha, rfl⟩, ?_⟩
    unfold rowA
    rw [hl, shown_yes (Nat.zero_le _)]
    exact decide_eq_true rfl
theorem id_at {es : List Ent} (nd : (es.map Ent.id).Nodup) {i j : Nat} (hi : i < es.length) (hj : j < es.length) (h : es[i].id = es[j].id) : i = j := by
  have hi' : i < (es.map Ent.id).length := by rw [List.length_map]; exact hi
  have hj' : j < (es.map Ent.id).length := by rw [List.length_map]; exact hj
  have := (List.nodup_iff_pairwise_ne.mp nd)
  rw [List.pairwise_iff_getElem] at this
  rcases Nat.lt_trichotomy i j with lt | eq | gt
  · have := this i j hi' hj' lt
    rw [List.getElem_map, List.getElem_map] at this
    exact absurd h this
  · exact eq
  · have := this j i hj' hi' gt
    rw [List.getElem_map, List.getElem_map] at this
    exact absurd h.symm this
theorem dep_names {es : List Ent} {gone : List Str} {z c : Str} {k : Nat} (nd : (es.map Ent.id).Nodup) (hk : k ≤ es.length) :
    writesIn es (depRows es gone z c k) = (metL (es.map (bl gone)) (z, c, k) k).reverse.map (nameAt es) := by
  have hf : writesIn es (depRows es gone z c k) = ((List.range es.length).filter fun i => srcIn (depRows es gone z c k) (nameAt es i)).map (nameAt es) := by
    unfold writesIn
    generalize depRows es gone z c k = rows
    have e := range_get es (.qu "" [])
    have hn : ∀ i, i < es.length → (es.getD i (.qu "" [])).id = nameAt es i := fun i hi => by
      rw [List.getD_eq_getElem?_getD, List.getElem?_eq_getElem hi, name_at (List.getElem?_eq_getElem hi)]
      rfl
    conv => lhs; rw [← e]
    rw [List.filter_map, List.map_map]
    have h1 : ((List.range es.length).filter ((fun e => srcIn rows e.id) ∘ fun j => es.getD j (.qu "" []))) = (List.range es.length).filter fun i => srcIn rows (nameAt es i) := by
      refine List.filter_congr fun i hi => ?_
      show srcIn _ (es.getD i (.qu "" [])).id = _
      rw [hn i (List.mem_range.mp hi)]
    rw [h1]
    refine List.map_congr_left fun i hi => ?_
    exact hn i (List.mem_range.mp (List.mem_filter.mp hi).1)
  rw [hf]
  congr 1
  have hml : ∀ p, p ∈ metL (es.map (bl gone)) (z, c, k) k ↔ Reach (es.map (bl gone)) (z, c, k) p := fun p => met_iff (q := (z, c, k)) p
  have hfall : (metL (es.map (bl gone)) (z, c, k) k).Pairwise (· > ·) := met_falls (q := (z, c, k)) (Nat.le_refl _)
  refine List.Perm.eq_of_pairwise (le := (· < ·)) (fun a b _ _ h1 h2 => by omega) (List.pairwise_lt_range.filter _) ?_ ?_
  · rw [List.pairwise_reverse]
    exact hfall
  · rw [List.perm_ext_iff_of_nodup (List.nodup_range.filter _) ((List.reverse_perm _).nodup_iff.mpr (falls_nodup hfall))]
    intro i
    rw [List.mem_filter, List.mem_range, List.mem_reverse, hml]
    have hs : srcIn (depRows es gone z c k) (nameAt es i) = true ↔ ∃ j, Reach (es.map (bl gone)) (z, c, k) j ∧ nameAt (es.map (bl gone)) j = nameAt es i := src_iff
    rw [hs]
    constructor
    · rintro ⟨hi, j, R, hj⟩
      rw [name_bl] at hj
      have hjl : j < es.length := by
        have : j < k := reach_lt R
        omega
      rw [name_at (List.getElem?_eq_getElem hjl), name_at (List.getElem?_eq_getElem hi)] at hj
      rw [← id_at nd hjl hi hj]
      exact R
    · intro R
      have : i < k := reach_lt R
      exact ⟨by omega, i, R, name_bl es gone i⟩
/-- the rows of a target -/
theorem dep_ok {es : List Ent} {gone : List Str} {z c : Str} {k : Nat} (ok : ∀ e ∈ es, e.Ok) (hz : TxtOk z) (hc : TxtOk c) : DOk 2 (.list ((depRows es gone z c k).map rowD)) := by
  refine DOk.lst fun d hd => ?_
  obtain ⟨r, hr, rfl⟩ := List.mem_map.mp hd
  unfold depRows rowsOf at hr
  obtain ⟨a, ha, rfl⟩ := List.mem_map.mp hr
  have hid : ∀ {e : Ent} {j : Nat}, (es.map (bl gone))[j]? = some e → TxtOk e.id ∧ ∀ cc ∈ e.rs, TxtOk cc := fun {e j} he => by
    rw [List.getElem?_map] at he
    cases hx : es[j]? with
    | none => rw [hx] at he; cases he
    | some u =>
      rw [hx] at he
      obtain rfl := Option.some.inj he
      have ou := ok u (List.mem_of_getElem? hx)
      rw [bl_id]
      refine ⟨idB_txt ou.idOk, fun cc hcc => ?_⟩
      unfold bl at hcc
      split at hcc
      · cases hcc
      · cases u with
        | wr id rs ws pr => exact cellB_txt (ou.2.1.ok cc hcc)
        | qu id cs => exact cellB_txt (ou.2.ok cc hcc)
  have two : TxtOk a.1 ∧ TxtOk a.2.1 := by
    rcases asks_reach (Nat.le_refl _) a ha with rfl | ⟨j1, e1, c1, R, he, hcc, rfl⟩
    · exact ⟨hz, hc⟩
    · exact ⟨(hid he).1, (hid he).2 _ hcc⟩
  refine DOk.tup (n := 0) fun d hd => ?_
  rcases List.mem_cons.mp hd with rfl | hd
  · exact DOk.str two.1
  rcases List.mem_cons.mp hd with rfl | hd
  · exact DOk.str two.2
  rw [List.mem_singleton.mp hd]
  show DOk 0 (optD (shown (es.map (bl gone)) 0 (lastIx (es.map (bl gone)) a.2.2 a.2.1)))
  cases hl : lastIx (es.map (bl gone)) a.2.2 a.2.1 with
  | none => exact DOk.non
  | some j =>
    rw [shown_yes (Nat.zero_le _)]
    obtain ⟨_, hw⟩ := lastIx_lt hl
    unfold wr at hw
    cases hx : (es.map (bl gone))[j]? with
    | none => rw [hx] at hw; cases hw
    | some e =>
      rw [name_at hx]
      exact DOk.str (hid hx).1
/-- an entry's position, by its id -/
theorem pos_of {es : List Ent} (ok : LogOk es) {i : Nat} {e : Ent} (he : es[i]? = some e) : PosOf es e.id i := by
  refine .inr ⟨id_ne (ok.ok e (List.mem_of_getElem? he)), ⟨e, he, rfl⟩, fun j u hj hu hid => ?_⟩
  obtain ⟨h1, e1⟩ := List.getElem?_eq_some_iff.mp he
  obtain ⟨h2, e2⟩ := List.getElem?_eq_some_iff.mp hu
  have := id_at ok.nd h2 h1 (by rw [e1, e2]; exact hid)
  omega
theorem optV_dp {K : PySem.W.Frag} {H : Hp} {o : Option Str} {Q : VK} (h : ∀ z, o = some z → TxtOk z) (q : Q (.bl false) H) : rNeD K (optV o) (optV o) H Q := by
  have d : DOk 0 (optD o) := by
    cases o with
    | none => exact DOk.non
    | some z => exact DOk.str (h z rfl)
  have r : Rp [] H (optD o) (optV o) := by cases o <;> rfl
  exact ne_ok d r r q
theorem target_of {es : List Ent} {spots : List Str} {q : Goal2} (ok : LogOk es) (hs : ∀ c ∈ spots, cellB c = true) (h : q ∈ targetsL es spots) : ∃ k, TargetOk es q.1 q.2 k := by
  rcases List.mem_append.mp h with h | h
  · obtain ⟨c, hc, rfl⟩ := List.mem_map.mp h
    refine ⟨es.length, .inl ⟨rfl, rfl⟩, ?_, hs c hc, fun e he => ?_⟩
    · unfold writeAt
      rw [List.getElem?_eq_none (Nat.le_refl _)]
    · rw [List.getElem?_eq_none (Nat.le_refl _)] at he
      cases he
  · obtain ⟨e, he, hq⟩ := List.mem_flatMap.mp h
    unfold goalsAt at hq
    cases hw : e.isW with
    | true => rw [hw] at hq; cases hq
    | false =>
      rw [hw] at hq
      obtain ⟨c, hc, rfl⟩ := List.mem_map.mp hq
      obtain ⟨k, hk, he2⟩ := List.mem_iff_getElem.mp he
      have hek : es[k]? = some e := by rw [List.getElem?_eq_getElem hk, he2]
      refine ⟨k, pos_of ok hek, ?_, ?_, fun u hu => ?_⟩
      · unfold writeAt
        rw [hek]
        exact hw
      · have oke := ok.ok e he
        cases e with
        | wr id rs ws pr => cases hw
        | qu id cs => exact oke.2.ok c hc
      · rw [hek] at hu
        obtain rfl := Option.some.inj hu
        exact hc
/-- rows are few -/
theorem dep_len {es : List Ent} {gone : List Str} {z c : Str} {k : Nat} (ok : ∀ e ∈ es, e.Ok) (h60 : es.length ≤ 60) (hk : k ≤ es.length) : (depRows es gone z c k).length ≤ 181 := by
  unfold depRows
  rw [← rows_live (q := (z, c, k)) hk]
  have := back_len (row := (z, c, none)) (l := liveB (es.take k) gone) fun u hu => (ok u (List.mem_of_mem_take (List.mem_filter.mp hu).1)).rs.2
  have h2 : (liveB (es.take k) gone).length ≤ 60 := Nat.le_trans liveB_len (by rw [List.length_take]; omega)
  show (backL (liveB (es.take k) gone) [(z, c, none)]).length ≤ 181
  omega
/-- a row in a list of rows -/
theorem row_at {ex : List Addr} {H : Hp} {rows : List Row} {vs : List V} {i : Nat} {x : V} (h : RpAll ex H (rows.map rowD) vs) (hi : vs[i]? = some x) : ∃ r T, rows[i]? = some r ∧ x = .ref T ∧ H T = some (.tup [.str r.1, .str r.2.1, optV r.2.2]) := by
  obtain ⟨d, hd, rx⟩ := RpAll.back h hi
  obtain ⟨r, hr, rfl⟩ : ∃ r, rows[i]? = some r ∧ rowD r = d := by
    rw [List.getElem?_map] at hd
    cases hcj : rows[i]? with
    | none => rw [hcj] at hd; cases hd
    | some r => rw [hcj] at hd; exact ⟨r, rfl, Option.some.inj hd⟩
  obtain ⟨T, vs, rfl, _, hT, w1, _, rfl, e1, w2, _, rfl, e2, w3, _, rfl, e3, e4⟩ := rx
  obtain rfl : w1 = .str r.1 := e1
  obtain rfl : w2 = .str r.2.1 := e2
  obtain rfl : _ = [] := e4
  refine ⟨r, T, hr, rfl, ?_⟩
  have hw3 : w3 = optV r.2.2 := by
    generalize r.2.2 = o at e3
    cases o <;> exact e3
  rw [hT, hw3]
/-- the text of a row's source is within bounds -/
theorem shown_txt {es : List Ent} {gone : List Str} {k : Nat} {c : Str} (ok : ∀ e ∈ es, e.Ok) : ∀ zz, shown (es.map (bl gone)) 0 (lastIx (es.map (bl gone)) k c) = some zz → TxtOk zz := fun zz h => by
  cases ho : lastIx (es.map (bl gone)) k c with
  | none => rw [ho] at h; cases h
  | some j2 =>
    rw [ho, shown_yes (Nat.zero_le _), name_bl] at h
    have hj := lastIx_lt ho
    obtain ⟨u, hu, _⟩ := wr_live hj.2
    rw [name_at hu] at h
    rw [← Option.some.inj h]
    exact idB_txt (ok u (List.mem_of_getElem? hu)).idOk
theorem targets_len {es : List Ent} {spots : List Str} (ok : ∀ e ∈ es, e.Ok) : (targetsL es spots).length ≤ spots.length + 3 * es.length := by
  unfold targetsL
  rw [List.length_append, List.length_map]
  have : (es.flatMap goalsAt).length ≤ 3 * es.length := by
    induction es with
    | nil => exact Nat.le_refl _
    | cons e es ih =>
      rw [List.flatMap_cons, List.length_append, List.length_cons]
      have h1 := ih fun u hu => ok u (List.mem_cons_of_mem _ hu)
      have h2 : (goalsAt e).length ≤ 3 := by
        unfold goalsAt
        split
        · exact Nat.zero_le _
        · rw [List.length_map]
          exact (ok e List.mem_cons_self).rs.2
      omega
  omega
/-- a goal in a list of goals -/
theorem goal_at {ex : List Addr} {H : Hp} {qs : List Goal2} {vs : List V} {i : Nat} {x : V} (h : RpAll ex H (qs.map goalD) vs) (hi : vs[i]? = some x) : ∃ z c T, qs[i]? = some (z, c) ∧ x = .ref T ∧ H T = some (.tup [.str z, .str c]) ∧ T ∉ ex := by
  obtain ⟨d, hd, rx⟩ := RpAll.back h hi
  obtain ⟨r, hr, rfl⟩ : ∃ r, qs[i]? = some r ∧ goalD r = d := by
    rw [List.getElem?_map] at hd
    cases hcj : qs[i]? with
    | none => rw [hcj] at hd; cases hd
    | some r => rw [hcj] at hd; exact ⟨r, rfl, Option.some.inj hd⟩
  obtain ⟨z, c⟩ := r
  obtain ⟨T, vs, rfl, nT, hT, w1, _, rfl, e1, w2, _, rfl, e2, e3⟩ := rx
  obtain rfl : w1 = .str z := e1
  obtain rfl : w2 = .str c := e2
  obtain rfl : _ = [] := e3
  exact ⟨z, c, T, hr, rfl, hT, nT⟩
theorem target_txt {es : List Ent} {z c : Str} {k : Nat} (ok : ∀ e ∈ es, e.Ok) (tk : TargetOk es z c k) : TxtOk z := by
  rcases tk.pos with ⟨h, _⟩ | ⟨_, ⟨e, he, h⟩, _⟩
  · rw [h]; exact nil_txt
  · rw [← h]; exact idB_txt (ok e (List.mem_of_getElem? he)).idOk
end NV
/-! T8 -/
set_option Elab.async false
set_option linter.all false
set_option maxRecDepth 100000
set_option maxHeartbeats 600000
/-! the same rows: in the log without the retracted, with idle writes retracted too, in the log cut behind the reader -/
namespace NV
open PySem PySem.Spec PyProof.Rows L2
theorem bl_none (es : List Ent) : es.map (bl []) = es := by
  have : ∀ e : Ent, bl [] e = e := fun e => if_neg (by simp)
  rw [show bl [] = id from funext this, List.map_id]
theorem dep_short {es : List Ent} {gone : List Str} {z c : Str} {k : Nat} (h : PosOf es z k) (hz : z ∉ gone) : depRows (liveB es gone) [] z c (liveB (es.take k) gone).length = depRows es gone z c k := by
  obtain ⟨hp, ht⟩ := pos_live h hz
  unfold depRows
  rw [bl_none, ← rows_back (q := (z, c, (liveB (es.take k) gone).length)) hp.le]
  show backL ((liveB es gone).take _) _ = _
  rw [ht]
  exact rows_live (q := (z, c, k)) h.le
theorem target_live {es : List Ent} {gone : List Str} {z c : Str} {k : Nat} (nd : (es.map Ent.id).Nodup) (t : TargetOk es z c k) (hz : z ∉ gone) : TargetOk (liveB es gone) z c (liveB (es.take k) gone).length := by
  obtain ⟨hp, _⟩ := pos_live t.pos hz
  have same : ∀ e, (liveB es gone)[(liveB (es.take k) gone).length]? = some e → es[k]? = some e := fun e he => by
    have hm := (List.mem_filter.mp (List.mem_of_getElem? he)).1
    rcases hp with ⟨_, hl⟩ | ⟨hz0, ⟨u, hu, hid⟩, _⟩
    · rw [hl, List.getElem?_eq_none (Nat.le_refl _)] at he
      cases he
    · rw [he] at hu
      obtain rfl := Option.some.inj hu
      rcases t.pos with ⟨hz1, _⟩ | ⟨_, ⟨w, hw, hwid⟩, _⟩
      · exact absurd hz1 hz0
      · rw [hw]
        exact congrArg some (id_inj nd (List.mem_of_getElem? hw) hm (by rw [hwid, hid]))
  refine ⟨hp, ?_, t.cell, fun e he => t.reads e (same e he)⟩
  have q := t.query
  unfold writeAt at q ⊢
  cases he : (liveB es gone)[(liveB (es.take k) gone).length]? with
  | none => rfl
  | some e =>
    rw [same e he] at q
    exact q
theorem dep_take {es : List Ent} {gone : List Str} {z c : Str} {k m : Nat} (hk : k ≤ m) (hm : m ≤ es.length) : depRows (es.take m) gone z c k = depRows es gone z c k := by
  unfold depRows
  rw [← rows_back (es := es.map (bl gone)) (q := (z, c, k)) (by rw [List.length_map]; show k ≤ es.length; omega), ← rows_back (es := (es.take m).map (bl gone)) (q := (z, c, k)) (by rw [List.length_map, List.length_take]; show k ≤ _; omega)]
  show backL (((es.take m).map (bl gone)).take k) _ = backL ((es.map (bl gone)).take k) _
  rw [List.map_take, List.take_take, Nat.min_eq_left hk]
theorem target_take {es : List Ent} {z c : Str} {k m : Nat} (hm : m ≤ es.length) (t : TargetOk (es.take m) z c k) (hz : z ≠ "") : TargetOk es z c k ∧ k ≤ m := by
  rcases t.pos with ⟨h, _⟩ | ⟨_, ⟨e, he, hid⟩, no⟩
  · exact absurd h hz
  have hkm : k < m := by
    have := (List.getElem?_eq_some_iff.mp he).1
    rw [List.length_take] at this
    omega
  have eq : ∀ j, j ≤ k → (es.take m)[j]? = es[j]? := fun j hj => List.getElem?_take_of_lt (by omega)
  refine ⟨⟨.inr ⟨hz, ⟨e, by rw [← eq k (Nat.le_refl _)]; exact he, hid⟩, fun j u hj hu => no j u hj (by rw [eq j (by omega)]; exact hu)⟩, ?_, t.cell, fun u hu => t.reads u (by rw [eq k (Nat.le_refl _)]; exact hu)⟩, by omega⟩
  have q := t.query
  unfold writeAt at q ⊢
  rw [eq k (Nat.le_refl _)] at q
  exact q
/-! ### idle writes -/
section
variable {es : List Ent} {gone idle : List Str}
theorem bl_idle {e : Ent} (h : e.id ∉ idle) : bl (gone ++ idle) e = bl gone e := by
  unfold bl
  by_cases hg : e.id ∈ gone
  · rw [if_pos hg, if_pos (List.mem_append_left _ hg)]
  · rw [if_neg hg, if_neg (fun y => (List.mem_append.mp y).elim hg h)]
theorem wr_more {i : Nat} {c : Str} (h : wr (es.map (bl (gone ++ idle))) i c = true) : wr (es.map (bl gone)) i c = true := by
  cases he : es[i]? with
  | none =>
    unfold wr at h
    rw [List.getElem?_map, he] at h
    cases h
  | some e =>
    rw [wr_bl he, Bool.and_eq_true, decide_eq_true_iff] at h ⊢
    exact ⟨fun y => h.1 (List.mem_append_left _ y), h.2⟩
theorem wr_same {i : Nat} {c : Str} (hi : nameAt es i ∉ idle) (h : wr (es.map (bl gone)) i c = true) : wr (es.map (bl (gone ++ idle))) i c = true := by
  cases he : es[i]? with
  | none =>
    unfold wr at h
    rw [List.getElem?_map, he] at h
    cases h
  | some e =>
    rw [name_at he] at hi
    rw [wr_bl he, Bool.and_eq_true, decide_eq_true_iff] at h ⊢
    exact ⟨fun y => (List.mem_append.mp y).elim h.1 hi, h.2⟩
theorem last_same {c : Str} : ∀ {n : Nat}, (∀ p, lastIx (es.map (bl gone)) n c = some p → nameAt es p ∉ idle) → lastIx (es.map (bl (gone ++ idle))) n c = lastIx (es.map (bl gone)) n c
  | 0, _ => rfl
  | n + 1, h => by
    have h0 := h
    unfold lastIx at h ⊢
    cases hw : wr (es.map (bl gone)) n c with
    | true =>
      rw [hw, if_pos rfl] at h
      rw [wr_same (h n rfl) hw, if_pos rfl, if_pos rfl]
    | false =>
      rw [hw, if_neg Bool.false_ne_true] at h
      have : wr (es.map (bl (gone ++ idle))) n c = false := by
        cases hb : wr (es.map (bl (gone ++ idle))) n c with
        | false => rfl
        | true => rw [wr_more hb] at hw; cases hw
      rw [this, if_neg Bool.false_ne_true, if_neg Bool.false_ne_true]
      exact last_same h
theorem asks_same {q : Ask} (hf : ∀ j, Reach (es.map (bl gone)) q j → nameAt es j ∉ idle) : ∀ {n : Nat}, n ≤ q.2.2 → asks (es.map (bl (gone ++ idle))) q n = asks (es.map (bl gone)) q n
  | 0, _ => rfl
  | n + 1, hn => by
    have ih := asks_same hf (n := n) (by omega)
    have src : ∀ r ∈ asks (es.map (bl gone)) q n, ∀ p, lastIx (es.map (bl gone)) r.2.2 r.2.1 = some p → Reach (es.map (bl gone)) q p := fun r hr p hp => by
      rcases asks_reach (by omega) r hr with rfl | ⟨j, e, c, R, he, hc, rfl⟩
      · exact .base hp
      · exact .step R he hc hp
    have hh : hits (es.map (bl (gone ++ idle))) (q.2.2 - (n + 1)) (asks (es.map (bl gone)) q n) = hits (es.map (bl gone)) (q.2.2 - (n + 1)) (asks (es.map (bl gone)) q n) := by
      unfold hits
      rw [Bool.eq_iff_iff, List.any_eq_true, List.any_eq_true]
      constructor
      · rintro ⟨r, hr, h⟩
        rw [last_same fun p hp => hf p (src r hr p hp)] at h
        exact ⟨r, hr, h⟩
      · rintro ⟨r, hr, h⟩
        exact ⟨r, hr, by rw [last_same fun p hp => hf p (src r hr p hp)]; exact h⟩
    unfold asks
    rw [ih, hh]
    cases hit : hits (es.map (bl gone)) (q.2.2 - (n + 1)) (asks (es.map (bl gone)) q n) with
    | false => rw [if_neg Bool.false_ne_true, if_neg Bool.false_ne_true]
    | true =>
      rw [if_pos rfl, if_pos rfl]
      congr 1
      unfold hits at hit
      obtain ⟨r, hr, h⟩ := List.any_eq_true.mp hit
      have R := src r hr _ (of_decide_eq_true h)
      have hi := hf _ R
      unfold asksAt
      rw [List.getElem?_map, List.getElem?_map]
      cases he : es[q.2.2 - (n + 1)]? with
      | none => rfl
      | some e =>
        rw [name_at he] at hi
        rw [Option.map_some, Option.map_some, bl_idle hi]
theorem dep_idle {z c : Str} {k : Nat} (hf : ∀ j, Reach (es.map (bl gone)) (z, c, k) j → nameAt es j ∉ idle) : depRows es (gone ++ idle) z c k = depRows es gone z c k := by
  unfold depRows rowsOf
  rw [asks_same hf (Nat.le_refl _)]
  refine List.map_congr_left fun r hr => ?_
  have src : ∀ p, lastIx (es.map (bl gone)) r.2.2 r.2.1 = some p → Reach (es.map (bl gone)) (z, c, k) p := fun p hp => by
    rcases asks_reach (Nat.le_refl _) r hr with rfl | ⟨j, e, c, R, he, hc, rfl⟩
    · exact .base hp
    · exact .step R he hc hp
  unfold rowA
  rw [last_same fun p hp => hf p (src p hp)]
  cases hl : lastIx (es.map (bl gone)) r.2.2 r.2.1 with
  | none => rfl
  | some j => rw [shown_yes (Nat.zero_le _), shown_yes (Nat.zero_le _), name_bl, name_bl]
end
end NV
/-! N1 -/
set_option Elab.async false
set_option linter.all false
set_option maxRecDepth 100000
set_option maxHeartbeats 600000
/-! what a target needs, and what it costs to need it -/
namespace NV
open PySem PySem.Spec PyProof.Rows L2
/-- what stands in c ahead of position i is needed by the target q when the writes in gone are retracted -/
inductive Needs (es : List Ent) (gone : List Str) (q : Ask) : Nat → Str → Prop
  | base : Needs es gone q q.2.2 q.2.1
  | pass {j : Nat} {e : Ent} {c : Str} (n : Needs es gone q (j + 1) c) (he : es[j]? = some e) (h : c ∉ e.ws ∨ e.id ∈ gone) : Needs es gone q j c
  | read {j : Nat} {e : Ent} {c r : Str} (n : Needs es gone q (j + 1) c) (he : es[j]? = some e) (hc : c ∈ e.ws) (hg : e.id ∉ gone) (hr : r ∈ e.rs) : Needs es gone q j r
/-- a target: the end, or a query and a cell that it asks for -/
def Goal (es : List Ent) (q : Ask) : Prop := q.2.2 = es.length ∨ ∃ e, es[q.2.2]? = some e ∧ e.isW = false ∧ q.2.1 ∈ e.rs
/-- the total price of those in gone -/
def priceG (gone : List Str) : List Ent → Int
  | [] => 0
  | e :: l => (if e.id ∈ gone then e.pr.getD 0 else 0) + priceG gone l
def GoneW (es : List Ent) (gone : List Str) : Prop := ∀ e ∈ es, e.id ∈ gone → e.isW = true ∧ e.pr ≠ none
/-! ### one entry more -/
theorem readersC_le (e : Ent) (w : Way) (o : Str → Way) (c : Str) : leC 0 (costW (readers e w o c)) (costW (o c)) := by
  unfold readers
  by_cases h : c ∈ e.rs
  · rw [if_pos h]
    match w with
    | none => exact leC.refl (Int.le_refl _) _
    | some (k, p) => exact better_le (Int.le_refl _) _ (leC.refl (Int.le_refl _) _)
  · rw [if_neg h]
    exact leC.refl (Int.le_refl _) _
theorem leC.trans0 {s : Int} {x y z : Cost} (a : leC 0 x y) (b : leC s y z) : leC s x z := fun k e => by
  obtain ⟨m, hm, h1⟩ := b k e
  obtain ⟨n, hn, h2⟩ := a m hm
  exact ⟨n, hn, by omega⟩
theorem on_free {e : Ent} {o : Str → Way} {c : Str} (h : c ∉ e.ws) : leC 0 (costW (stepB e o c)) (costW (o c)) := by
  cases e with
  | wr id rs ws pr =>
    have b : blocked (.wr id rs ws pr) o c = o c := if_neg h
    have := readersC_le (.wr id rs ws pr) (wayFrom o ws) (blocked (.wr id rs ws pr) o) c
    rw [b] at this
    exact this
  | qu id cs => exact readersC_le (.qu id cs) (some (0, [])) o c
theorem on_paid {e : Ent} {o : Str → Way} {c : Str} {i : Int} (h0 : 0 ≤ i) (hp : e.pr = some i) : leC i (costW (stepB e o c)) (costW (o c)) := by
  cases e with
  | wr id rs ws pr =>
    obtain rfl : pr = some i := hp
    refine leC.trans0 (readersC_le (.wr id rs ws (some i)) (wayFrom o ws) (blocked (.wr id rs ws (some i)) o) c) ?_
    unfold blocked
    split
    · exact cost_past_self _
    · exact leC.refl h0 _
  | qu id cs => cases hp
theorem readers_yes {e : Ent} {w : Way} {o : Str → Way} {c : Str} (h : c ∈ e.rs) : leC 0 (costW (readers e w o c)) (costW w) := by
  unfold readers
  rw [if_pos h]
  intro b hb
  match w, hb with
  | some (k, p), hb =>
    obtain rfl : k = b := Option.some.inj hb
    rw [cost_better]
    cases costW (o c) with
    | none => exact ⟨k, rfl, by omega⟩
    | some m => exact ⟨min k m, rfl, by omega⟩
theorem on_read {e : Ent} {o : Str → Way} {c : Str} (hw : e.isW = true) (h : c ∈ e.rs) : leC 0 (costW (stepB e o c)) (costW (wayFrom o e.ws)) := by
  cases e with
  | wr id rs ws pr => exact readers_yes h
  | qu id cs => cases hw
theorem on_query {e : Ent} {o : Str → Way} {c : Str} (hw : e.isW = false) (h : c ∈ e.rs) : leC 0 (costW (stepB e o c)) (some 0) := by
  cases e with
  | wr id rs ws pr => cases hw
  | qu id cs => exact readers_yes (e := .qu id cs) (w := some (0, [])) (o := o) h
theorem fromC_le {o : Str → Way} {ws : List Str} {c : Str} (h : c ∈ ws) : leC 0 (costW (wayFrom o ws)) (costW (o c)) := by
  intro b e
  cases ho : o c with
  | none => rw [ho] at e; cases e
  | some y =>
    rw [ho] at e
    have e : y.1 = b := Option.some.inj e
    have hin : y ∈ ws.filterMap o := List.mem_filterMap.mpr ⟨c, h, ho⟩
    obtain ⟨m, hm, _, hl⟩ := (minW_iff (ws.filterMap o)).2 (fun z => by rw [z] at hin; cases hin)
    refine ⟨m.1, by unfold wayFrom; rw [hm]; rfl, ?_⟩
    have := hl y hin
    omega
theorem fromC_some {o : Str → Way} {ws : List Str} {k : Int} (h : costW (wayFrom o ws) = some k) : ∃ c ∈ ws, costW (o c) = some k := by
  have ne : ws.filterMap o ≠ [] := fun z => by
    have := (minW_iff (ws.filterMap o)).1 z
    unfold wayFrom at h
    rw [this] at h
    cases h
  obtain ⟨m, hm, hmem, _⟩ := (minW_iff (ws.filterMap o)).2 ne
  unfold wayFrom at h
  rw [hm] at h
  obtain ⟨c, hc, ho⟩ := List.mem_filterMap.mp hmem
  exact ⟨c, hc, by rw [ho]; exact h⟩
/-- where the cost of an entry more comes from -/
theorem on_cases {e : Ent} {o : Str → Way} {c : Str} {k : Int} (h : costW (stepB e o c) = some k) :
    (c ∉ e.ws ∧ costW (o c) = some k) ∨ (c ∈ e.ws ∧ ∃ i k', e.pr = some i ∧ costW (o c) = some k' ∧ k = k' + i) ∨ (c ∈ e.rs ∧ e.isW = false ∧ k = 0) ∨ (c ∈ e.rs ∧ e.isW = true ∧ costW (wayFrom o e.ws) = some k) := by
  have reads : ∀ (w : Way) (u : Str → Way), costW (readers e w u c) = some k → costW (u c) = some k ∨ (c ∈ e.rs ∧ costW w = some k) := by
    intro w u hk
    unfold readers at hk
    by_cases hc : c ∈ e.rs
    · rw [if_pos hc] at hk
      match w, hk with
      | none, hk => exact .inl hk
      | some (a, p), hk =>
        dsimp only at hk
        rw [cost_better] at hk
        cases hu : costW (u c) with
        | none =>
          rw [hu] at hk
          exact .inr ⟨hc, hk⟩
        | some m =>
          rw [hu] at hk
          have hk : min a m = k := Option.some.inj hk
          rcases Int.le_total a m with z | z
          · rw [Int.min_eq_left z] at hk
            exact .inr ⟨hc, by rw [← hk]; rfl⟩
          · rw [Int.min_eq_right z] at hk
            exact .inl (by rw [hk])
    · rw [if_neg hc] at hk
      exact .inl hk
  cases e with
  | wr id rs ws pr =>
    rcases reads (wayFrom o ws) (blocked (.wr id rs ws pr) o) h with z | ⟨z1, z2⟩
    · unfold blocked at z
      by_cases hc : c ∈ (Ent.wr id rs ws pr).ws
      · rw [if_pos hc] at z
        refine .inr (.inl ⟨hc, ?_⟩)
        have z : costW (past pr (o c)) = some k := z
        match ho : o c, pr, z with
        | some (a, p), some i, z =>
          exact ⟨i, a, rfl, rfl, (Option.some.inj z).symm⟩
        | some (a, p), none, z => cases z
        | none, _, z => cases z
      · rw [if_neg hc] at z
        exact .inl ⟨hc, z⟩
    · exact .inr (.inr (.inr ⟨z1, rfl, z2⟩))
  | qu id cs =>
    rcases reads (some (0, [])) o h with z | ⟨z1, z2⟩
    · exact .inl ⟨(fun y => by cases y), z⟩
    · exact .inr (.inr (.inl ⟨z1, rfl, (Option.some.inj z2).symm⟩))
/-! ### what is needed costs no more than what is retracted -/
theorem drop_cons {es : List Ent} {j : Nat} {e : Ent} (he : es[j]? = some e) : es.drop j = e :: es.drop (j + 1) := by
  obtain ⟨hj, h⟩ := List.getElem?_eq_some_iff.mp he
  rw [List.drop_eq_getElem_cons hj, h]
theorem on_drop {es : List Ent} {j : Nat} {e : Ent} (he : es[j]? = some e) (c : Str) : onB (es.drop j) c = stepB e (onB (es.drop (j + 1))) c := by
  rw [drop_cons he]
  rfl
theorem priceG_nn {gone : List Str} : ∀ {l : List Ent}, (∀ e ∈ l, e.Ok) → 0 ≤ priceG gone l
  | [], _ => Int.le_refl _
  | e :: l, h => by
    have ih := priceG_nn (gone := gone) (l := l) fun u hu => h u (List.mem_cons_of_mem _ hu)
    have he : 0 ≤ e.pr.getD 0 := by
      have := h e List.mem_cons_self
      cases e with
      | wr id rs ws pr =>
        cases pr with
        | none => exact Int.le_refl _
        | some i =>
          have := this.2.2.2 i rfl
          show 0 ≤ i
          omega
      | qu id cs => exact Int.le_refl _
    unfold priceG
    split <;> omega
theorem goal_zero {es : List Ent} {q : Ask} (g : Goal es q) : leC 0 (costW (onB (es.drop q.2.2) q.2.1)) (some 0) := by
  rcases g with g | ⟨e, he, hw, hr⟩
  · rw [g, List.drop_length]
    exact leC.refl (Int.le_refl _) _
  · rw [on_drop he]
    exact on_query hw hr
theorem le_some {s : Int} {x : Cost} {k : Int} (h : leC s x (some k)) : ∃ a, x = some a ∧ a ≤ k + s := h k rfl
theorem pr_ok {e : Ent} (h : e.Ok) {i : Int} (hp : e.pr = some i) : 1 ≤ i := by
  cases e with
  | wr id rs ws pr => exact (h.2.2.2 i hp).1
  | qu id cs => cases hp
/-- the price of those that keep p alone, and lie from j on -/
theorem needs_le {es : List Ent} {gone : List Str} {q : Ask} (ok : ∀ e ∈ es, e.Ok) (g : Goal es q) (gw : GoneW es gone) (K : Nat → Bool) (S : Nat → Int) (h0 : S q.2.2 ≥ 0) (hS : ∀ j e, es[j]? = some e → S j = (if e.id ∈ gone ∧ K j = true then e.pr.getD 0 else 0) + S (j + 1))
    (hK : ∀ j e c k, es[j]? = some e → c ∈ e.ws → Needs es gone q (j + 1) c → costW (onB (es.drop (j + 1)) c) = some k → k ≤ S (j + 1) → e.id ∈ gone → K j = true) {i : Nat} {c : Str} (n : Needs es gone q i c) :
    ∃ k, costW (onB (es.drop i) c) = some k ∧ k ≤ S i := by
  have sle : ∀ j e, es[j]? = some e → S (j + 1) ≤ S j := fun j e he => by
    have := hS j e he
    have oke := ok e (List.mem_of_getElem? he)
    have : 0 ≤ e.pr.getD 0 := by
      cases hp : e.pr with
      | none => exact Int.le_refl _
      | some i =>
        have := pr_ok oke hp
        show 0 ≤ i
        omega
    split at * <;> omega
  induction n with
  | base =>
    obtain ⟨k, hk, hl⟩ := le_some (goal_zero g)
    exact ⟨k, hk, by omega⟩
  | @pass j e c n he h ih =>
    obtain ⟨k, hk, hl⟩ := ih
    have hmono := sle j e he
    rw [on_drop he]
    by_cases hc : c ∈ e.ws
    · have hg : e.id ∈ gone := h.elim (fun z => absurd hc z) id
      obtain ⟨hw, hp⟩ := gw e (List.mem_of_getElem? he) hg
      cases hpr : e.pr with
      | none => exact absurd hpr hp
      | some i =>
        have h1 := pr_ok (ok e (List.mem_of_getElem? he)) hpr
        have hk' := hK j e c k he hc n hk hl hg
        have le := on_paid (o := onB (es.drop (j + 1))) (c := c) (by omega) hpr
        rw [hk] at le
        obtain ⟨a, ha, hle⟩ := le_some le
        have := hS j e he
        rw [if_pos ⟨hg, hk'⟩, hpr] at this
        exact ⟨a, ha, by simp only [Option.getD_some] at this; omega⟩
    · have le := on_free (o := onB (es.drop (j + 1))) hc
      rw [hk] at le
      obtain ⟨a, ha, hle⟩ := le_some le
      exact ⟨a, ha, by omega⟩
  | @read j e c r n he hc hg hr ih =>
    obtain ⟨k, hk, hl⟩ := ih
    have hmono := sle j e he
    rw [on_drop he]
    have hw : e.isW = true := by
      cases e with
      | wr _ _ _ _ => rfl
      | qu _ _ => cases hc
    have le := (on_read (o := onB (es.drop (j + 1))) hw hr).trans0 (fromC_le (o := onB (es.drop (j + 1))) hc)
    rw [hk] at le
    obtain ⟨a, ha, hle⟩ := le_some le
    exact ⟨a, ha, by omega⟩
theorem price_drop {es : List Ent} {gone : List Str} {j : Nat} {e : Ent} (he : es[j]? = some e) : priceG gone (es.drop j) = (if e.id ∈ gone then e.pr.getD 0 else 0) + priceG gone (es.drop (j + 1)) := by
  rw [drop_cons he]
  rfl
theorem needs_price {es : List Ent} {gone : List Str} {q : Ask} (ok : ∀ e ∈ es, e.Ok) (g : Goal es q) (gw : GoneW es gone) {i : Nat} {c : Str} (n : Needs es gone q i c) : ∃ k, costW (onB (es.drop i) c) = some k ∧ k ≤ priceG gone (es.drop i) := by
  refine needs_le ok g gw (fun _ => true) (fun j => priceG gone (es.drop j)) ?_ (fun j e he => ?_) (fun _ _ _ _ _ _ _ _ _ _ => rfl) n
  · exact priceG_nn fun e he => ok e (List.mem_of_mem_drop he)
  · rw [price_drop he]
    simp
/-! ### and the cost can be reached -/
theorem Needs.congr {es : List Ent} {gone gone' : List Str} {q : Ask} {i : Nat} {c : Str} (n : Needs es gone q i c) : (∀ j e, i ≤ j → es[j]? = some e → (e.id ∈ gone ↔ e.id ∈ gone')) → Needs es gone' q i c := by
  induction n with
  | base => exact fun _ => .base
  | @pass j e c n he h ih =>
    intro same
    exact .pass (ih fun j' e' hj => same j' e' (by omega)) he (h.imp id fun z => (same j e (Nat.le_refl _) he).1 z)
  | @read j e c r n he hc hg hr ih =>
    intro same
    exact .read (ih fun j' e' hj => same j' e' (by omega)) he hc (fun z => hg ((same j e (Nat.le_refl _) he).2 z)) hr
theorem priceG_congr {gone gone' : List Str} : ∀ {l : List Ent}, (∀ e ∈ l, (e.id ∈ gone ↔ e.id ∈ gone')) → priceG gone l = priceG gone' l
  | [], _ => rfl
  | e :: l, h => by
    have ih := priceG_congr (gone := gone) (gone' := gone') (l := l) fun u hu => h u (List.mem_cons_of_mem _ hu)
    unfold priceG
    rw [ih]
    congr 1
    by_cases z : e.id ∈ gone
    · rw [if_pos z, if_pos ((h e List.mem_cons_self).1 z)]
    · rw [if_neg z, if_neg (fun y => z ((h e List.mem_cons_self).2 y))]
theorem reach_price {es : List Ent} (nd : (es.map Ent.id).Nodup) : ∀ (m i : Nat), es.length - i = m → i ≤ es.length → ∀ (c : Str) (k : Int), costW (onB (es.drop i) c) = some k →
    ∃ (gone : List Str) (q : Ask), (∀ z ∈ gone, ∃ e ∈ es.drop i, e.id = z ∧ e.isW = true ∧ e.pr ≠ none) ∧ Goal es q ∧ i ≤ q.2.2 ∧ Needs es gone q i c ∧ priceG gone (es.drop i) = k
  | 0, i, hm, hi, c, k, h => by
    have e : i = es.length := by omega
    rw [e, List.drop_length] at h
    refine ⟨[], ("", c, i), (fun z hz => by cases hz), .inl e, Nat.le_refl _, .base, ?_⟩
    rw [e, List.drop_length]
    exact Option.some.inj h
  | m + 1, i, hm, hi, c, k, h => by
    obtain ⟨e, he⟩ : ∃ e, es[i]? = some e := ⟨_, List.getElem?_eq_getElem (by omega)⟩
    have ih := reach_price nd m (i + 1) (by omega) (by omega)
    rw [on_drop he] at h
    have fresh : ∀ gone : List Str, (∀ z ∈ gone, ∃ u ∈ es.drop (i + 1), u.id = z ∧ u.isW = true ∧ u.pr ≠ none) → e.id ∉ gone := fun gone hg z => by
      obtain ⟨u, hu, hid, _⟩ := hg _ z
      have nd2 : ((es.drop i).map Ent.id).Nodup := nd.sublist ((List.drop_sublist _ _).map _)
      rw [drop_cons he, List.map_cons, List.nodup_cons] at nd2
      exact nd2.1 (List.mem_map.mpr ⟨u, hu, hid⟩)
    have up : ∀ gone : List Str, (∀ z ∈ gone, ∃ u ∈ es.drop (i + 1), u.id = z ∧ u.isW = true ∧ u.pr ≠ none) → ∀ z ∈ gone, ∃ u ∈ es.drop i, u.id = z ∧ u.isW = true ∧ u.pr ≠ none := fun gone hg z hz => by
      obtain ⟨u, hu, r⟩ := hg z hz
      exact ⟨u, by rw [drop_cons he]; exact List.mem_cons_of_mem _ hu, r⟩
    rcases on_cases h with ⟨hc, hk⟩ | ⟨hc, p, k', hp, hk, rfl⟩ | ⟨hr, hw, rfl⟩ | ⟨hr, hw, hk⟩
    · obtain ⟨gone, q, hg, gq, hq, n, hpr⟩ := ih c k hk
      exact ⟨gone, q, up gone hg, gq, by omega, .pass n he (.inl hc), by rw [price_drop he, if_neg (fresh gone hg), hpr]; omega⟩
    · obtain ⟨gone, q, hg, gq, hq, n, hpr⟩ := ih c k' hk
      have hew : e.isW = true := by
        cases e with
        | wr _ _ _ _ => rfl
        | qu _ _ => cases hc
      have other : ∀ u ∈ es.drop (i + 1), u.id ≠ e.id := fun u hu z => by
        have nd2 : ((es.drop i).map Ent.id).Nodup := nd.sublist ((List.drop_sublist _ _).map _)
        rw [drop_cons he, List.map_cons, List.nodup_cons] at nd2
        exact nd2.1 (List.mem_map.mpr ⟨u, hu, z⟩)
      refine ⟨e.id :: gone, q, fun z hz => ?_, gq, by omega, .pass (n.congr fun j u hj hu => ?_) he (.inr List.mem_cons_self), ?_⟩
      · rcases List.mem_cons.mp hz with y | y
        · exact ⟨e, by rw [drop_cons he]; exact List.mem_cons_self, y.symm, hew, by rw [hp]; simp⟩
        · exact up gone hg z y
      · have hin : u ∈ es.drop (i + 1) := List.mem_iff_getElem?.mpr ⟨j - (i + 1), by rw [List.getElem?_drop, show i + 1 + (j - (i + 1)) = j by omega]; exact hu⟩
        exact ⟨fun z => List.mem_cons_of_mem _ z, fun z => (List.mem_cons.mp z).elim (fun y => absurd y (other u hin)) id⟩
      · rw [price_drop he, if_pos List.mem_cons_self, hp]
        have := priceG_congr (gone := gone) (gone' := e.id :: gone) (l := es.drop (i + 1)) fun u hu => ⟨fun z => List.mem_cons_of_mem _ z, fun z => (List.mem_cons.mp z).elim (fun y => absurd y (other u hu)) id⟩
        rw [← this, hpr]
        simp only [Option.getD_some]
        omega
    · refine ⟨[], (e.id, c, i), (fun z hz => by cases hz), .inr ⟨e, he, hw, hr⟩, Nat.le_refl _, .base, ?_⟩
      have none_ : ∀ l : List Ent, priceG [] l = 0 := fun l => by
        induction l with
        | nil => rfl
        | cons u l ih => unfold priceG; rw [ih]; simp
      exact none_ _
    · obtain ⟨c', hc', hk'⟩ := fromC_some hk
      obtain ⟨gone, q, hg, gq, hq, n, hpr⟩ := ih c' k hk'
      exact ⟨gone, q, up gone hg, gq, by omega, .read n he hc' (fresh gone hg) hr, by rw [price_drop he, if_neg (fresh gone hg), hpr]; omega⟩
end NV
/-! X1 -/
set_option Elab.async false
set_option linter.all false
set_option maxRecDepth 100000
set_option maxHeartbeats 600000
/-! what compaction keeps, whenever it is done -/
namespace NV
open PySem PySem.Spec PyProof.Rows L2
/-- the same cost, where it is at most B -/
def eqC (B : Int) (x y : Cost) : Prop := (∀ a, x = some a → a ≤ B → y = some a) ∧ (∀ b, y = some b → b ≤ B → x = some b)
theorem eqC.refl {B : Int} (x : Cost) : eqC B x x := ⟨fun _ e _ => e, fun _ e _ => e⟩
theorem eqC.symm {B : Int} {x y : Cost} (h : eqC B x y) : eqC B y x := ⟨h.2, h.1⟩
theorem eqC.trans {B : Int} {x y z : Cost} (h : eqC B x y) (h' : eqC B y z) : eqC B x z := ⟨fun a e l => h'.1 a (h.1 a e l) l, fun b e l => h.2 b (h'.2 b e l) l⟩
/-- both above B -/
theorem eqC.far {B : Int} {x y : Cost} (hx : ∀ a, x = some a → B < a) (hy : ∀ a, y = some a → B < a) : eqC B x y := ⟨fun a e l => by have := hx a e; omega, fun a e l => by have := hy a e; omega⟩
theorem from_some {o : Str → Way} {cs : List Str} {b : Int} (h : costW (wayFrom o cs) = some b) : (∃ c ∈ cs, costW (o c) = some b) ∧ ∀ c ∈ cs, ∀ b', costW (o c) = some b' → b ≤ b' := by
  by_cases hn : cs.filterMap o = []
  · unfold wayFrom at h
    rw [(minW_iff _).1 hn] at h
    cases h
  · obtain ⟨m, hm, hin, hl⟩ := (minW_iff (cs.filterMap o)).2 hn
    unfold wayFrom at h
    rw [hm] at h
    have hb : m.1 = b := Option.some.inj h
    obtain ⟨c, hc, hoc⟩ := List.mem_filterMap.mp hin
    refine ⟨⟨c, hc, by rw [hoc]; exact congrArg some hb⟩, fun c' hc' b' hb' => ?_⟩
    cases ho : o c' with
    | none => rw [ho] at hb'; cases hb'
    | some w =>
      rw [ho] at hb'
      have := hl w (List.mem_filterMap.mpr ⟨c', hc', ho⟩)
      have : w.1 = b' := Option.some.inj hb'
      omega
theorem from_le {o : Str → Way} {cs : List Str} {c : Str} {b : Int} (hc : c ∈ cs) (h : costW (o c) = some b) : ∃ b', costW (wayFrom o cs) = some b' ∧ b' ≤ b := by
  cases ho : o c with
  | none => rw [ho] at h; cases h
  | some w =>
    rw [ho] at h
    have hb : w.1 = b := Option.some.inj h
    have hin : w ∈ cs.filterMap o := List.mem_filterMap.mpr ⟨c, hc, ho⟩
    obtain ⟨m, hm, _, hl⟩ := (minW_iff (cs.filterMap o)).2 (fun z => by rw [z] at hin; cases hin)
    refine ⟨m.1, by unfold wayFrom; rw [hm]; rfl, ?_⟩
    have := hl w hin
    omega
theorem eq_from {B : Int} {o o' : Str → Way} {cs : List Str} (h : ∀ c, eqC B (costW (o c)) (costW (o' c))) : eqC B (costW (wayFrom o cs)) (costW (wayFrom o' cs)) := by
  have one : ∀ {o o' : Str → Way}, (∀ c, eqC B (costW (o c)) (costW (o' c))) → ∀ a, costW (wayFrom o cs) = some a → a ≤ B → costW (wayFrom o' cs) = some a := by
    intro o o' h a e l
    obtain ⟨⟨c, hc, hoc⟩, low⟩ := from_some e
    obtain ⟨b, hb, hba⟩ := from_le hc ((h c).1 a hoc l)
    obtain ⟨⟨c2, hc2, hoc2⟩, _⟩ := from_some hb
    have := low c2 hc2 b ((h c2).2 b hoc2 (by omega))
    rw [hb]
    congr 1
    omega
  exact ⟨one h, one fun c => (h c).symm⟩
theorem eq_past {B : Int} {pr : Option Int} (hp : PrOk pr) {x y : Way} (h : eqC B (costW x) (costW y)) : eqC B (costW (past pr x)) (costW (past pr y)) := by
  have one : ∀ {x y : Way}, eqC B (costW x) (costW y) → ∀ a, costW (past pr x) = some a → a ≤ B → costW (past pr y) = some a := by
    intro x y h a e l
    match x, pr, hp, e with
    | some (k, p), some i, hp, e =>
      have hi := (hp i rfl).1
      have e : k + i = a := Option.some.inj e
      have hk := h.1 k rfl (by omega)
      cases y with
      | none => cases hk
      | some z =>
        have hz : z.1 = k := Option.some.inj hk
        show some (z.1 + i) = some a
        rw [hz, e]
  exact ⟨one h, one h.symm⟩
theorem eq_better {B : Int} {x y : Int × Path} {u v : Way} (h : eqC B (some x.1) (some y.1)) (h' : eqC B (costW u) (costW v)) : eqC B (costW (better x u)) (costW (better y v)) := by
  have one : ∀ {x y : Int × Path} {u v : Way}, eqC B (some x.1) (some y.1) → eqC B (costW u) (costW v) → ∀ a, costW (better x u) = some a → a ≤ B → costW (better y v) = some a := by
    intro x y u v h h' a e l
    rw [cost_better] at e ⊢
    have bx : x.1 ≤ B → y.1 = x.1 := fun z => Option.some.inj (h.1 x.1 rfl z)
    have by_ : y.1 ≤ B → x.1 = y.1 := fun z => Option.some.inj (h.2 y.1 rfl z)
    cases hu : costW u with
    | none =>
      rw [hu] at e
      have e : x.1 = a := Option.some.inj e
      have := bx (by omega)
      cases hv : costW v with
      | none => show some y.1 = some a; congr 1; omega
      | some b =>
        show some (min y.1 b) = some a
        have : ¬ b ≤ B := fun z => by
          have := h'.2 b hv z
          rw [hu] at this
          cases this
        congr 1
        omega
    | some c =>
      rw [hu] at e
      have e : min x.1 c = a := Option.some.inj e
      cases hv : costW v with
      | none =>
        have : ¬ c ≤ B := fun z => by
          have := h'.1 c hu z
          rw [hv] at this
          cases this
        show some y.1 = some a
        have hx : x.1 = a := by omega
        have := bx (by omega)
        congr 1
        omega
      | some b =>
        have hcb : c ≤ B → b = c := fun z => by
          have := h'.1 c hu z
          rw [hv] at this
          exact Option.some.inj this
        have hbc : b ≤ B → c = b := fun z => by
          have := h'.2 b hv z
          rw [hu] at this
          exact Option.some.inj this
        show some (min y.1 b) = some a
        congr 1
        by_cases h1 : x.1 ≤ B <;> by_cases h2 : c ≤ B <;> by_cases h3 : y.1 ≤ B <;> by_cases h4 : b ≤ B <;> omega
  exact ⟨one h h', one h.symm h'.symm⟩
/-- a reading that is too dear changes nothing -/
theorem eq_far {B : Int} {x : Int × Path} {u : Way} (h : B < x.1) : eqC B (costW (better x u)) (costW u) := by
  constructor
  · intro a e l
    rw [cost_better] at e
    cases hu : costW u with
    | none => rw [hu] at e; have e : x.1 = a := Option.some.inj e; omega
    | some c => rw [hu] at e; have e : min x.1 c = a := Option.some.inj e; congr 1; omega
  · intro a e l
    rw [cost_better, e]
    show some (min x.1 a) = some a
    congr 1
    omega
theorem eq_reads {B : Int} {e : Ent} {w w' : Way} {u u' : Str → Way} (hw : eqC B (costW w) (costW w')) (hu : ∀ c, eqC B (costW (u c)) (costW (u' c))) (c : Str) : eqC B (costW (readers e w u c)) (costW (readers e w' u' c)) := by
  unfold readers
  by_cases hc : c ∈ e.rs
  · rw [if_pos hc, if_pos hc]
    match w, w', hw with
    | none, none, _ => exact hu c
    | some (k, p), some (k', p'), hw => exact eq_better (x := (k, _)) (y := (k', _)) hw (hu c)
    | some (k, p), none, hw =>
      have : B < k := by
        rcases Int.lt_or_le B k with h | h
        · exact h
        · cases hw.1 k rfl h
      exact (eq_far (x := (k, _)) this).trans (hu c)
    | none, some (k, p), hw =>
      have : B < k := by
        rcases Int.lt_or_le B k with h | h
        · exact h
        · cases hw.2 k rfl h
      exact (hu c).trans (eq_far (x := (k, _)) this).symm
  · rw [if_neg hc, if_neg hc]
    exact hu c
theorem Ent.Ok.prOk {e : Ent} (h : e.Ok) : PrOk e.pr := by
  cases e with
  | wr id rs ws pr => exact h.2.2.2
  | qu id cs => exact fun i e => by cases e
theorem eq_step {B : Int} {e : Ent} (ok : e.Ok) {o o' : Str → Way} (h : ∀ c, eqC B (costW (o c)) (costW (o' c))) : ∀ c, eqC B (costW (stepB e o c)) (costW (stepB e o' c)) := by
  cases e with
  | wr id rs ws pr =>
    refine eq_reads (eq_from h) fun c => ?_
    unfold blocked
    by_cases hc : c ∈ (Ent.wr id rs ws pr).ws
    · rw [if_pos hc, if_pos hc]
      exact eq_past ok.prOk (h c)
    · rw [if_neg hc, if_neg hc]
      exact h c
  | qu id cs => exact eq_reads (w := some (0, [])) (w' := some (0, [])) (eqC.refl _) h
def within (B : Int) : Cost → Bool
  | none => false
  | some k => decide (k ≤ B)
theorem eqC.within {B : Int} {x y : Cost} (h : eqC B x y) : within B x = within B y := by
  cases x with
  | none =>
    cases y with
    | none => rfl
    | some b =>
      show false = decide (b ≤ B)
      symm
      exact decide_eq_false fun z => by cases h.2 b rfl z
  | some a =>
    cases y with
    | none =>
      show decide (a ≤ B) = false
      exact decide_eq_false fun z => by cases h.1 a rfl z
    | some b =>
      show decide (a ≤ B) = decide (b ≤ B)
      rw [decide_eq_decide]
      exact ⟨fun z => by have := Option.some.inj (h.1 a rfl z); omega, fun z => by have := Option.some.inj (h.2 b rfl z); omega⟩
theorem far_of {B : Int} {x : Cost} (h : within B x = false) : ∀ a, x = some a → B < a := fun a e => by
  rw [e] at h
  have := of_decide_eq_false h
  omega
/-- a write that costs more than B is not missed -/
theorem eq_del {B : Int} {e : Ent} (hw : e.isW = true) (ok : e.Ok) {o : Str → Way} (h : within B (costW (wayFrom o e.ws)) = false) : ∀ c, eqC B (costW (stepB e o c)) (costW (o c)) := by
  intro c
  have far := far_of h
  have step : stepB e o = readers e (wayFrom o e.ws) (blocked e o) := by
    cases e with
    | wr id rs ws pr => rfl
    | qu id cs => cases hw
  rw [step]
  have hb : eqC B (costW (blocked e o c)) (costW (o c)) := by
    unfold blocked
    by_cases hc : c ∈ e.ws
    · rw [if_pos hc]
      have fo : ∀ a, costW (o c) = some a → B < a := fun a ha => by
        obtain ⟨b, hb, hba⟩ := from_le hc ha
        have := far b hb
        omega
      refine .far (fun a ha => ?_) fo
      match hoc : o c, hp : e.pr, ok.prOk, ha with
      | some (k, p), some i, hpr, ha =>
        have ha : k + i = a := Option.some.inj ha
        have := fo k (by rw [hoc]; rfl)
        have := (hpr i rfl).1
        omega
    · rw [if_neg hc]
      exact .refl _
  unfold readers
  by_cases hc : c ∈ e.rs
  · rw [if_pos hc]
    match hwf : wayFrom o e.ws with
    | none => exact hb
    | some (k, p) => exact (eq_far (x := (k, _)) (far k (by rw [hwf]; rfl))).trans hb
  · rw [if_neg hc]
    exact hb
/-! ### parts of logs -/
def onF : List Ent → (Str → Way) → Str → Way
  | [], o => o
  | e :: M, o => stepB e (onF M o)
theorem onB_app : ∀ (M rest : List Ent), onB (M ++ rest) = onF M (onB rest)
  | [], _ => rfl
  | e :: M, rest => by
    show stepB e (onB (M ++ rest)) = stepB e (onF M (onB rest))
    rw [onB_app M rest]
theorem onB_F (M : List Ent) : onB M = onF M endW := by
  have := onB_app M []
  rw [List.append_nil] at this
  exact this
def keeps (B : Int) (e : Ent) (o : Str → Way) : Bool := !e.isW || within B (costW (wayFrom o e.ws))
def keptO (B : Int) : List Ent → (Str → Way) → List Ent
  | [], _ => []
  | e :: M, o => (if keeps B e (onF M o) then [e] else []) ++ keptO B M o
def keptB (B : Int) (M : List Ent) : List Ent := keptO B M endW
theorem onF_app : ∀ (M N : List Ent) (o : Str → Way), onF (M ++ N) o = onF M (onF N o)
  | [], _, _ => rfl
  | e :: M, N, o => by
    show stepB e (onF (M ++ N) o) = stepB e (onF M (onF N o))
    rw [onF_app M N o]
theorem keptO_app (B : Int) : ∀ (M N : List Ent) (o : Str → Way), keptO B (M ++ N) o = keptO B M (onF N o) ++ keptO B N o
  | [], _, _ => rfl
  | e :: M, N, o => by
    show (if keeps B e (onF (M ++ N) o) then [e] else []) ++ keptO B (M ++ N) o = ((if keeps B e (onF M (onF N o)) then [e] else []) ++ keptO B M (onF N o)) ++ keptO B N o
    rw [onF_app, keptO_app B M N o, List.append_assoc]
theorem keptO_sub (B : Int) : ∀ (M : List Ent) (o : Str → Way), List.Sublist (keptO B M o) M
  | [], _ => .slnil
  | e :: M, o => by
    show List.Sublist ((if keeps B e (onF M o) then [e] else []) ++ keptO B M o) (e :: M)
    cases keeps B e (onF M o) with
    | true => exact (keptO_sub B M o).cons_cons e
    | false => exact (keptO_sub B M o).cons e
theorem eq_onF {B : Int} {o o' : Str → Way} (h : ∀ c, eqC B (costW (o c)) (costW (o' c))) : ∀ (M : List Ent), (∀ e ∈ M, e.Ok) → ∀ c, eqC B (costW (onF M o c)) (costW (onF M o' c))
  | [], _ => h
  | e :: M, ok => eq_step (ok e List.mem_cons_self) (eq_onF h M fun u hu => ok u (List.mem_cons_of_mem _ hu))
theorem eq_keeps {B : Int} {e : Ent} {o o' : Str → Way} (h : ∀ c, eqC B (costW (o c)) (costW (o' c))) : keeps B e o = keeps B e o' := by
  unfold keeps
  rw [(eq_from (cs := e.ws) h).within]
theorem eq_keptO {B : Int} {o o' : Str → Way} (h : ∀ c, eqC B (costW (o c)) (costW (o' c))) : ∀ (M : List Ent), (∀ e ∈ M, e.Ok) → keptO B M o = keptO B M o'
  | [], _ => rfl
  | e :: M, ok => by
    have ok' : ∀ u ∈ M, u.Ok := fun u hu => ok u (List.mem_cons_of_mem _ hu)
    show (if keeps B e (onF M o) then [e] else []) ++ keptO B M o = (if keeps B e (onF M o') then [e] else []) ++ keptO B M o'
    rw [eq_keeps (eq_onF h M ok'), eq_keptO h M ok']
theorem le_onF {o : Str → Way} (h : Below o) : ∀ (M : List Ent), ∀ c, leC 0 (costW (onF M endW c)) (costW (onF M o c))
  | [] => fun c b e => ⟨0, rfl, by have := h c b e; omega⟩
  | e :: M => le_step (Int.le_refl 0) e (le_onF h M)
/-- what is deleted alone is deleted with more behind it, for a smaller budget too -/
theorem del_more {B B' : Int} (hB : B ≤ B') {e : Ent} {M : List Ent} {o : Str → Way} (h : Below o) (hd : keeps B' e (onF M endW) = false) : e.isW = true ∧ within B (costW (wayFrom (onF M o) e.ws)) = false := by
  unfold keeps at hd
  rw [Bool.or_eq_false_iff, Bool.not_eq_false'] at hd
  refine ⟨hd.1, ?_⟩
  cases hx : costW (wayFrom (onF M o) e.ws) with
  | none => rfl
  | some b =>
    obtain ⟨a, ha, hab⟩ := le_from (cs := e.ws) (le_onF h M) b hx
    have := far_of hd.2 a ha
    show decide (b ≤ B) = false
    exact decide_eq_false (by omega)
/-- a part compacted first makes no difference to what comes before it .. -/
theorem part_on {B B' : Int} (hB : B ≤ B') {o : Str → Way} (h : Below o) : ∀ (M : List Ent), (∀ e ∈ M, e.Ok) → ∀ c, eqC B (costW (onF (keptB B' M) o c)) (costW (onF M o c))
  | [], _, c => eqC.refl _
  | e :: M, ok, c => by
    have ok' : ∀ u ∈ M, u.Ok := fun u hu => ok u (List.mem_cons_of_mem _ hu)
    have ih := part_on hB h M ok'
    show eqC B (costW (onF ((if keeps B' e (onF M endW) then [e] else []) ++ keptO B' M endW) o c)) _
    cases hk : keeps B' e (onF M endW) with
    | true => exact eq_step (ok e List.mem_cons_self) ih c
    | false =>
      obtain ⟨hw, hf⟩ := del_more hB h hk
      exact (ih c).trans (eq_del hw (ok e List.mem_cons_self) hf c).symm
/-- .. nor to what is kept of it -/
theorem part_kept {B B' : Int} (hB : B ≤ B') {o : Str → Way} (h : Below o) : ∀ (M : List Ent), (∀ e ∈ M, e.Ok) → keptO B (keptB B' M) o = keptO B M o
  | [], _ => rfl
  | e :: M, ok => by
    have ok' : ∀ u ∈ M, u.Ok := fun u hu => ok u (List.mem_cons_of_mem _ hu)
    have ih := part_kept hB h M ok'
    have on := part_on hB h M ok'
    show keptO B ((if keeps B' e (onF M endW) then [e] else []) ++ keptO B' M endW) o = (if keeps B e (onF M o) then [e] else []) ++ keptO B M o
    cases hk : keeps B' e (onF M endW) with
    | true =>
      show (if keeps B e (onF (keptB B' M) o) then [e] else []) ++ keptO B (keptB B' M) o = _
      rw [ih, eq_keeps on]
    | false =>
      obtain ⟨hw, hf⟩ := del_more hB h hk
      have hno : keeps B e (onF M o) = false := by
        unfold keeps
        rw [hw, hf]
        rfl
      rw [hno]
      exact ih
theorem below_on : ∀ (M : List Ent), (∀ e ∈ M, e.Ok) → Below (onB M)
  | [], _ => below_end
  | e :: M, ok => below_step (below_on M fun u hu => ok u (List.mem_cons_of_mem _ hu)) (ok e List.mem_cons_self)
theorem kept_parts {B B' : Int} (hB : B ≤ B') (pre M rest : List Ent) (ok : ∀ e ∈ pre ++ (M ++ rest), e.Ok) : keptB B (pre ++ (keptB B' M ++ rest)) = keptB B (pre ++ (M ++ rest)) := by
  have okp : ∀ e ∈ pre, e.Ok := fun e he => ok e (List.mem_append_left _ he)
  have okm : ∀ e ∈ M, e.Ok := fun e he => ok e (List.mem_append_right _ (List.mem_append_left _ he))
  have okr : ∀ e ∈ rest, e.Ok := fun e he => ok e (List.mem_append_right _ (List.mem_append_right _ he))
  have hb : Below (onF rest endW) := by rw [← onB_F]; exact below_on rest okr
  unfold keptB
  rw [keptO_app, keptO_app, keptO_app, keptO_app]
  congr 1
  · rw [onF_app, onF_app]
    exact eq_keptO (part_on hB hb M okm) pre okp
  · congr 1
    exact part_kept hB hb M okm
/-- compacted once, compacted -/
theorem kept_same {B B' : Int} (hB : B ≤ B') {M : List Ent} (ok : ∀ e ∈ M, e.Ok) : keptB B' (keptB B M) = keptB B M := by
  have h := kept_parts (B := B) (B' := B) (Int.le_refl B) [] M [] (by simpa using ok)
  simp only [List.nil_append, List.append_nil] at h
  generalize keptB B M = N at h
  have all : ∀ (N : List Ent) (o : Str → Way), keptO B N o = N → keptO B' N o = N := by
    intro N
    induction N with
    | nil => intro o _; rfl
    | cons e N ih =>
      intro o h
      have h : (if keeps B e (onF N o) then [e] else []) ++ keptO B N o = e :: N := h
      have hk : keeps B e (onF N o) = true := by
        cases hk : keeps B e (onF N o) with
        | true => rfl
        | false =>
          rw [hk] at h
          have := (keptO_sub B N o).length_le
          have h2 := congrArg List.length h
          simp at h2
          omega
      rw [hk] at h
      have h2 : keptO B N o = N := (List.cons.inj h).2
      show (if keeps B' e (onF N o) then [e] else []) ++ keptO B' N o = e :: N
      rw [ih o h2]
      have : keeps B' e (onF N o) = true := by
        unfold keeps at hk ⊢
        cases hx : costW (wayFrom (onF N o) e.ws) with
        | none => rw [hx] at hk; exact hk
        | some k =>
          rw [hx] at hk
          rw [Bool.or_eq_true] at hk ⊢
          exact hk.imp id fun z => decide_eq_true (by have := of_decide_eq_true z; omega)
      rw [this]
      rfl
  exact all N endW h
theorem keptB_sub (B : Int) (es : List Ent) : List.Sublist (keptB B es) es := keptO_sub B es endW
end NV
/-! N2 -/
set_option Elab.async false
set_option linter.all false
set_option maxRecDepth 100000
set_option maxHeartbeats 600000
/-! what a target depends on is kept, as long as the retracted kept writes cost no more than the budget -/
namespace NV
open PySem PySem.Spec PyProof.Rows L2
/-- an open row's cell is needed -/
theorem open_needs {es : List Ent} {gone : List Str} {z c0 : Str} {k : Nat} (hk : k ≤ es.length) : ∀ (m j : Nat), k - j = m → j ≤ k → ∀ (a c : Str), (a, c, none) ∈ backL (((es.take k).drop j).map (bl gone)) [(z, c0, none)] → Needs es gone (z, c0, k) j c
  | 0, j, hm, hj, a, c, h => by
    obtain rfl : j = k := by omega
    rw [List.drop_of_length_le (by rw [List.length_take]; omega)] at h
    have h := List.mem_singleton.mp h
    have : c = c0 := congrArg (fun x => x.2.1) h
    rw [this]
    exact Needs.base (q := (z, c0, j))
  | m + 1, j, hm, hj, a, c, h => by
    have hjl : j < (es.take k).length := by rw [List.length_take]; omega
    obtain ⟨e, he⟩ : ∃ e, es[j]? = some e := ⟨_, List.getElem?_eq_getElem (by omega)⟩
    have het : (es.take k)[j] = e := by
      rw [List.getElem_take]
      exact (List.getElem?_eq_some_iff.mp he).2
    have ih := open_needs (gone := gone) (z := z) (c0 := c0) hk m (j + 1) (by omega) (by omega)
    rw [List.drop_eq_getElem_cons hjl, het, List.map_cons] at h
    have h : (a, c, none) ∈ stepT (bl gone e) (backL (((es.take k).drop (j + 1)).map (bl gone)) [(z, c0, none)]) := h
    generalize hrows : backL (((es.take k).drop (j + 1)).map (bl gone)) [(z, c0, none)] = rows at ih h
    by_cases hg : e.id ∈ gone
    · have hb : bl gone e = .wr e.id [] [] none := if_pos hg
      rw [hb, step_none rfl] at h
      exact .pass (ih a c h) he (.inr hg)
    · have hb : bl gone e = e := if_neg hg
      rw [hb] at h
      have still : ∀ r : Row, r = (a, c, none) → openIn e r = false → c ∉ e.ws := fun r hr ho => by
        rw [hr] at ho
        unfold openIn at ho
        simpa using ho
      unfold stepT at h
      split at h
      · rename_i hany
        rcases List.mem_append.mp h with y | y
        · obtain ⟨r, hr, hc⟩ := List.mem_map.mp y
          unfold closeR at hc
          cases ho : openIn e r with
          | true =>
            rw [ho, if_pos rfl] at hc
            have := congrArg (fun x => x.2.2) hc
            cases this
          | false =>
            rw [ho, if_neg Bool.false_ne_true] at hc
            exact .pass (ih a c (by rw [← hc]; exact hr)) he (.inl (still r hc ho))
        · obtain ⟨c', hc', hr⟩ := List.mem_map.mp y
          have : c' = c := congrArg (fun x => x.2.1) hr
          rw [this] at hc'
          obtain ⟨⟨a1, c1, o1⟩, hr1, ho⟩ := List.any_eq_true.mp hany
          unfold openIn at ho
          simp only [Bool.and_eq_true, Option.isNone_iff_eq_none, decide_eq_true_eq] at ho
          obtain ⟨rfl, hw⟩ := ho
          exact .read (ih a1 c1 hr1) he hw hg hc'
      · rename_i hany
        refine .pass (ih a c h) he (.inl (still _ rfl ?_))
        cases ho : openIn e (a, c, none) with
        | false => rfl
        | true => exact absurd (List.any_eq_true.mpr ⟨_, h, ho⟩) hany
theorem priceG_app (gone : List Str) : ∀ (l m : List Ent), priceG gone (l ++ m) = priceG gone l + priceG gone m
  | [], m => by
    show priceG gone m = 0 + _
    omega
  | e :: l, m => by
    show (if e.id ∈ gone then e.pr.getD 0 else 0) + priceG gone (l ++ m) = ((if e.id ∈ gone then e.pr.getD 0 else 0) + priceG gone l) + _
    rw [priceG_app gone l m]
    omega
theorem kept_drop {B : Int} {es : List Ent} {j : Nat} : keptB B es = keptO B (es.take j) (onB (es.drop j)) ++ keptB B (es.drop j) := by
  conv => lhs; rw [← List.take_append_drop j es]
  unfold keptB
  rw [keptO_app, ← onB_F]
theorem kept_cons {B : Int} {es : List Ent} {j : Nat} {e : Ent} (he : es[j]? = some e) : keptB B (es.drop j) = (if keeps B e (onB (es.drop (j + 1))) then [e] else []) ++ keptB B (es.drop (j + 1)) := by
  rw [drop_cons he]
  unfold keptB
  show (if keeps B e (onF (es.drop (j + 1)) endW) then [e] else []) ++ _ = _
  rw [← onB_F]
theorem keptO_okT {B : Int} {es : List Ent} (ok : ∀ e ∈ es, e.Ok) (j : Nat) : ∀ e ∈ keptO B (es.take j) (onB (es.drop j)), e.Ok := fun e he => ok e (List.mem_of_mem_take ((keptO_sub B _ _).subset he))
theorem price_kept {B : Int} {es : List Ent} {gone : List Str} (ok : ∀ e ∈ es, e.Ok) (hB : priceG gone (keptB B es) ≤ B) (j : Nat) : priceG gone (keptB B (es.drop j)) ≤ B := by
  rw [kept_drop (j := j), priceG_app] at hB
  have := priceG_nn (gone := gone) (keptO_okT (B := B) ok j)
  omega
/-- what writes a needed cell is kept -/
theorem needs_kept {B : Int} {es : List Ent} {gone : List Str} {q : Ask} (ok : ∀ e ∈ es, e.Ok) (g : Goal es q) (gw : GoneW es gone) (hB : priceG gone (keptB B es) ≤ B) {j : Nat} {e : Ent} {c : Str} (he : es[j]? = some e) (hc : c ∈ e.ws) (n : Needs es gone q (j + 1) c) : keeps B e (onB (es.drop (j + 1))) = true := by
  have keep : ∀ {j : Nat} {e : Ent} {c : Str} {k : Int}, c ∈ e.ws → costW (onB (es.drop (j + 1)) c) = some k → k ≤ B → keeps B e (onB (es.drop (j + 1))) = true := fun {j e c k} hc hk hl => by
    have le := fromC_le (o := onB (es.drop (j + 1))) hc
    rw [hk] at le
    obtain ⟨a, ha, hle⟩ := le_some le
    unfold keeps
    rw [ha]
    have : within B (some a) = true := decide_eq_true (by omega)
    rw [this, Bool.or_true]
  let d : Ent := .qu "" []
  have h0 : priceG gone (keptB B (es.drop q.2.2)) ≥ 0 := priceG_nn fun e he => ok e (List.mem_of_mem_drop ((keptO_sub B _ _).subset he))
  have hS : ∀ j e, es[j]? = some e → priceG gone (keptB B (es.drop j)) = (if e.id ∈ gone ∧ keeps B (es.getD j d) (onB (es.drop (j + 1))) = true then e.pr.getD 0 else 0) + priceG gone (keptB B (es.drop (j + 1))) := fun j e he => by
    have hd : es.getD j d = e := by rw [List.getD_eq_getElem?_getD, he]; rfl
    rw [kept_cons he, priceG_app, hd]
    congr 1
    cases hkp : keeps B e (onB (es.drop (j + 1))) with
    | true =>
      rw [if_pos rfl]
      show (if e.id ∈ gone then e.pr.getD 0 else 0) + 0 = _
      by_cases hg : e.id ∈ gone
      · rw [if_pos hg, if_pos ⟨hg, rfl⟩]; omega
      · rw [if_neg hg, if_neg (fun z => hg z.1)]; omega
    | false =>
      rw [if_neg Bool.false_ne_true, if_neg (fun z => by cases z.2)]
      rfl
  have hK : ∀ j e c k, es[j]? = some e → c ∈ e.ws → Needs es gone q (j + 1) c → costW (onB (es.drop (j + 1)) c) = some k → k ≤ priceG gone (keptB B (es.drop (j + 1))) → e.id ∈ gone → keeps B (es.getD j d) (onB (es.drop (j + 1))) = true := fun j e c k he hc _ hk hl _ => by
    have hd : es.getD j d = e := by rw [List.getD_eq_getElem?_getD, he]; rfl
    rw [hd]
    exact keep hc hk (by have := price_kept ok hB (j + 1); omega)
  obtain ⟨k, hk, hl⟩ := needs_le ok g gw (fun j => keeps B (es.getD j d) (onB (es.drop (j + 1)))) (fun j => priceG gone (keptB B (es.drop j))) h0 hS hK n
  exact keep hc hk (by have := price_kept ok hB (j + 1); omega)
/-- the rows of the kept entries are those of all -/
theorem rows_kept {B : Int} {es : List Ent} {gone : List Str} {z c0 : Str} {k : Nat} (ok : ∀ e ∈ es, e.Ok) (g : Goal es (z, c0, k)) (hk : k ≤ es.length) (gw : GoneW es gone) (hB : priceG gone (keptB B es) ≤ B) : ∀ (m j : Nat), k - j = m → j ≤ k →
    backL ((keptO B ((es.take k).drop j) (onB (es.drop k))).map (bl gone)) [(z, c0, none)] = backL (((es.take k).drop j).map (bl gone)) [(z, c0, none)]
  | 0, j, hm, hj => by
    rw [List.drop_of_length_le (by rw [List.length_take]; omega)]
    rfl
  | m + 1, j, hm, hj => by
    have hjl : j < (es.take k).length := by rw [List.length_take]; omega
    obtain ⟨e, he⟩ : ∃ e, es[j]? = some e := ⟨_, List.getElem?_eq_getElem (by omega)⟩
    have het : (es.take k)[j] = e := by
      rw [List.getElem_take]
      exact (List.getElem?_eq_some_iff.mp he).2
    have ih := rows_kept ok g hk gw hB m (j + 1) (by omega) (by omega)
    rw [List.drop_eq_getElem_cons hjl, het, List.map_cons]
    have on : onF ((es.take k).drop (j + 1)) (onB (es.drop k)) = onB (es.drop (j + 1)) := by
      rw [← onB_app]
      congr 1
      conv => rhs; rw [← List.take_append_drop k es]
      rw [List.drop_append_of_le_length (by rw [List.length_take]; omega)]
    show backL (((if keeps B e (onF ((es.take k).drop (j + 1)) (onB (es.drop k))) then [e] else []) ++ keptO B ((es.take k).drop (j + 1)) (onB (es.drop k))).map (bl gone)) [(z, c0, none)] = stepT (bl gone e) (backL (((es.take k).drop (j + 1)).map (bl gone)) [(z, c0, none)])
    rw [on]
    cases hkp : keeps B e (onB (es.drop (j + 1))) with
    | true =>
      rw [if_pos rfl, List.singleton_append, List.map_cons]
      show stepT (bl gone e) (backL _ _) = _
      rw [ih]
    | false =>
      rw [if_neg Bool.false_ne_true, List.nil_append, ih]
      symm
      by_cases hg : e.id ∈ gone
      · have hb : bl gone e = .wr e.id [] [] none := if_pos hg
        rw [hb]
        exact step_none rfl _
      · have hb : bl gone e = e := if_neg hg
        rw [hb]
        have no : (backL (((es.take k).drop (j + 1)).map (bl gone)) [(z, c0, none)]).any (openIn e) = false := by
          rw [List.any_eq_false]
          rintro ⟨a, c, o⟩ hr ho
          unfold openIn at ho
          simp only [Bool.and_eq_true, Option.isNone_iff_eq_none, decide_eq_true_eq] at ho
          obtain ⟨rfl, hw⟩ := ho
          have n := open_needs (gone := gone) hk (k - (j + 1)) (j + 1) rfl (by omega) a c hr
          rw [needs_kept ok g gw hB he hw n] at hkp
          cases hkp
        unfold stepT
        rw [no, if_neg Bool.false_ne_true]
theorem rows_short {B : Int} {es : List Ent} {gone : List Str} {z c0 : Str} {k : Nat} (ok : ∀ e ∈ es, e.Ok) (g : Goal es (z, c0, k)) (hk : k ≤ es.length) (gw : GoneW es gone) (hB : priceG gone (keptB B es) ≤ B) :
    backL (liveB (keptO B (es.take k) (onB (es.drop k))) gone) [(z, c0, none)] = backL (liveB (es.take k) gone) [(z, c0, none)] := by
  rw [back_live, back_live]
  exact rows_kept ok g hk gw hB k 0 (by omega) (by omega)
end NV
/-! T9 -/
set_option Elab.async false
set_option linter.all false
set_option maxRecDepth 100000
set_option maxHeartbeats 600000
/-! a target of the kept entries and of all entries has the same rows -/
namespace NV
open PySem PySem.Spec PyProof.Rows L2
/-- the place of all's k in the kept -/
def kAt (B : Int) (es : List Ent) (k : Nat) : Nat := (keptO B (es.take k) (onB (es.drop k))).length
theorem kAt_take (B : Int) (es : List Ent) (k : Nat) : (keptB B es).take (kAt B es k) = keptO B (es.take k) (onB (es.drop k)) := by
  rw [kept_drop (j := k)]
  exact List.take_left
theorem pos_uniq {es : List Ent} {z : Str} {a b : Nat} (h1 : PosOf es z a) (h2 : PosOf es z b) : a = b := by
  rcases h1 with ⟨e1, rfl⟩ | ⟨n1, ⟨u, hu, hid⟩, no⟩
  · rcases h2 with ⟨_, rfl⟩ | ⟨n2, _⟩
    · rfl
    · exact absurd e1 n2
  · rcases h2 with ⟨e2, _⟩ | ⟨_, ⟨w, hw, hid2⟩, no2⟩
    · exact absurd e2 n1
    · rcases Nat.lt_trichotomy a b with lt | eq | gt
      · exact absurd hid (no2 a u lt hu)
      · exact eq
      · exact absurd hid2 (no b w gt hw)
theorem pos_kept {B : Int} {es : List Ent} {z : Str} {k : Nat} (h : PosOf es z k) (hq : ∀ e, es[k]? = some e → e.isW = false) : PosOf (keptB B es) z (kAt B es k) := by
  rcases h with ⟨hz, rfl⟩ | ⟨hz, ⟨e, he, hid⟩, no⟩
  · left
    refine ⟨hz, ?_⟩
    have := kept_drop (B := B) (es := es) (j := es.length)
    rw [List.drop_length] at this
    show (keptO B (es.take es.length) (onB (es.drop es.length))).length = _
    rw [this, List.drop_length]
    show _ = (_ ++ keptO B [] endW).length
    rw [List.length_append]
    rfl
  · right
    have hk := kept_cons (B := B) he
    have hkp : keeps B e (onB (es.drop (k + 1))) = true := by
      unfold keeps
      rw [hq e he]
      rfl
    rw [hkp, if_pos rfl] at hk
    refine ⟨hz, ⟨e, ?_, hid⟩, fun j u hj hu => ?_⟩
    · rw [kept_drop (j := k), hk]
      unfold kAt
      rw [List.getElem?_append_right (Nat.le_refl _), Nat.sub_self]
      rfl
    · rw [kept_drop (j := k)] at hu
      unfold kAt at hj
      rw [List.getElem?_append_left hj] at hu
      have hm := (keptO_sub B _ _).subset (List.mem_of_getElem? hu)
      obtain ⟨i, hi⟩ := List.mem_iff_getElem?.mp hm
      have hik : i < k := by
        have := (List.getElem?_eq_some_iff.mp hi).1
        rw [List.length_take] at this
        omega
      rw [List.getElem?_take_of_lt hik] at hi
      exact no i u hik hi
/-- a target of the kept entries, in all entries -/
theorem target_kept {B : Int} {es : List Ent} {z c : Str} {k' : Nat} (ok : LogOk es) (t : TargetOk (keptB B es) z c k') : ∃ k, TargetOk es z c k ∧ k' = kAt B es k := by
  rcases t.pos with ⟨hz, hk⟩ | ⟨hz, ⟨e, he, hid⟩, no⟩
  · have tk : TargetOk es z c es.length := by
      refine ⟨.inl ⟨hz, rfl⟩, ?_, t.cell, fun u hu => ?_⟩
      · unfold writeAt
        rw [List.getElem?_eq_none (Nat.le_refl _)]
      · rw [List.getElem?_eq_none (Nat.le_refl _)] at hu
        cases hu
    refine ⟨_, tk, pos_uniq t.pos (pos_kept tk.pos fun e he => ?_)⟩
    rw [List.getElem?_eq_none (Nat.le_refl _)] at he
    cases he
  · have hq : e.isW = false := by
      have q := t.query
      unfold writeAt at q
      rw [he] at q
      exact q
    have hmem : e ∈ es := (keptB_sub B es).subset (List.mem_of_getElem? he)
    obtain ⟨k, hk, he2⟩ := List.mem_iff_getElem.mp hmem
    have hek : es[k]? = some e := by rw [List.getElem?_eq_getElem hk, he2]
    have hp : PosOf es z k := by rw [← hid]; exact pos_of ok hek
    have same : ∀ u, es[k]? = some u → u = e := fun u hu => by
      rw [hek] at hu
      exact (Option.some.inj hu).symm
    refine ⟨k, ⟨hp, ?_, t.cell, fun u hu => ?_⟩, pos_uniq t.pos (pos_kept hp fun u hu => ?_)⟩
    · unfold writeAt
      rw [hek]
      exact hq
    · rw [same u hu]
      exact t.reads e he
    · rw [same u hu]
      exact hq
theorem goal_of {es : List Ent} {z c : Str} {k : Nat} (t : TargetOk es z c k) : Goal es (z, c, k) := by
  rcases t.pos with ⟨_, rfl⟩ | ⟨_, ⟨e, he, _⟩, _⟩
  · exact .inl rfl
  · refine .inr ⟨e, he, ?_, t.reads e he⟩
    have q := t.query
    unfold writeAt at q
    rw [he] at q
    exact q
/-- the same rows -/
theorem dep_kept {B : Int} {es : List Ent} {gone : List Str} {z c : Str} {k : Nat} (ok : LogOk es) (t : TargetOk es z c k) (gok : GoneOk es gone) (hB : priceG gone (keptB B es) ≤ B) : depRows (keptB B es) gone z c (kAt B es k) = depRows es gone z c k := by
  have hk := t.pos.le
  have gw : GoneW es gone := fun e he hg => (gok e.id hg).2 e he rfl
  have hr := rows_short (z := z) (c0 := c) (k := k) ok.ok (goal_of t) hk gw hB
  have hk2 : kAt B es k ≤ (keptB B es).length := by
    unfold kAt
    rw [kept_drop (j := k), List.length_append]
    exact Nat.le_add_right _ _
  unfold depRows
  rw [← rows_live (q := (z, c, kAt B es k)) hk2, ← rows_live (q := (z, c, k)) hk]
  show backL (liveB ((keptB B es).take (kAt B es k)) gone) _ = backL (liveB (es.take k) gone) _
  rw [kAt_take]
  exact hr
/-! ### the price of those in a list of names -/
/-- what such a name's entry costs, where it is kept -/
def costIn (l : List Ent) (z : Str) : Int := match l.find? (fun e => decide (e.id = z)) with
  | some e => e.pr.getD 0
  | none => 0
def sumIn (l : List Ent) : List Str → Int
  | [] => 0
  | z :: zs => costIn l z + sumIn l zs
theorem sum_skip {e : Ent} {l : List Ent} : ∀ {gone : List Str}, e.id ∉ gone → sumIn (e :: l) gone = sumIn l gone
  | [], _ => rfl
  | z :: zs, h => by
    have h1 : e.id ≠ z := fun y => h (by rw [y]; exact List.mem_cons_self)
    show costIn (e :: l) z + sumIn (e :: l) zs = costIn l z + sumIn l zs
    rw [sum_skip fun y => h (List.mem_cons_of_mem _ y)]
    unfold costIn
    rw [List.find?_cons_of_neg (by simp [h1])]
theorem sum_take {e : Ent} {l : List Ent} (hl : e.id ∉ l.map Ent.id) : ∀ {gone : List Str}, gone.Nodup → e.id ∈ gone → sumIn (e :: l) gone = e.pr.getD 0 + sumIn l gone
  | z :: zs, nd, h => by
    rw [List.nodup_cons] at nd
    show costIn (e :: l) z + sumIn (e :: l) zs = e.pr.getD 0 + (costIn l z + sumIn l zs)
    by_cases hz : e.id = z
    · have h0 : costIn l z = 0 := by
        unfold costIn
        cases hf : l.find? (fun u => decide (u.id = z)) with
        | none => rfl
        | some u =>
          have h1 := List.mem_of_find?_eq_some hf
          have h2 := List.find?_some hf
          exact absurd (List.mem_map.mpr ⟨u, h1, by rw [of_decide_eq_true h2, hz]⟩) hl
      have h1 : costIn (e :: l) z = e.pr.getD 0 := by
        unfold costIn
        rw [List.find?_cons_of_pos (by simp [hz])]
      rw [h0, h1, sum_skip (by rw [hz]; exact nd.1)]
      omega
    · have h1 : costIn (e :: l) z = costIn l z := by
        unfold costIn
        rw [List.find?_cons_of_neg (by simp [hz])]
      have hm : e.id ∈ zs := (List.mem_cons.mp h).resolve_left hz
      rw [h1, sum_take hl nd.2 hm]
      omega
theorem sum_price : ∀ {l : List Ent} {gone : List Str}, (l.map Ent.id).Nodup → gone.Nodup → sumIn l gone = priceG gone l
  | [], gone, _, _ => by
    have : ∀ gone : List Str, sumIn [] gone = 0 := fun gone => by
      induction gone with
      | nil => rfl
      | cons z zs ih =>
        show costIn [] z + sumIn [] zs = 0
        rw [ih]
        rfl
    rw [this]
    rfl
  | e :: l, gone, nd, ng => by
    rw [List.map_cons, List.nodup_cons] at nd
    show _ = (if e.id ∈ gone then e.pr.getD 0 else 0) + priceG gone l
    rw [← sum_price nd.2 ng]
    by_cases h : e.id ∈ gone
    · rw [if_pos h, sum_take nd.1 ng h]
    · rw [if_neg h, sum_skip h, Int.zero_add]
end NV
/-! R1 -/
set_option Elab.async false
set_option linter.all false
set_option maxRecDepth 100000
set_option maxHeartbeats 1000000
/-! the law's _law_sets: some of the sets of names -/
namespace NV
open PySem PySem.Spec PyProof.Rows L2
open C8 (pss_cut pe_gc)
abbrev sLawSets : Stmt := topS 68
theorem scLawSets : FnScope ["draw", "names", "numbers", "number", "k", "name"] ["draw", "names"] (defScope sLawSets) := ⟨rfl, rfl, rfl, by decide +kernel, rfl, by decide +kernel, by decide +kernel⟩
def setsD (gs : List (List Str)) : List PyData := gs.map fun s => .list (s.map PyData.str)
def spSets : Sp := fun vs H Q _ => ∃ (D : Dr) (n : Nat) (a : Addr) (names : List Str), vs = [.ref D.d, .ref a] ∧ H a = some (.lst (names.map V.str)) ∧ a ∉ D.all ∧ names.length ≤ 16 ∧ DrAt D (n + 48) H ∧
  ∀ (gs : List (List Str)) p H', (∀ s ∈ gs, s.Sublist names) → H p = none → Rp D.ex H' (.list (setsD gs)) (.ref p) → Kp D.ex H H' → DrAt D n H' → Q (.ref p) H'
theorem pow_small : ∀ m : Fin 17, 0 < (1 : Int) * 2 ^ m.val ∧ (1 : Int) * 2 ^ m.val ≤ 65536 := by decide +kernel
theorem pow_five : ∀ m : Fin 5, (1 : Int) * 2 ^ m.val ≤ 16 := by decide +kernel
theorem pow16 (m : Nat) (h : m ≤ 16) : 0 < (1 : Int) * 2 ^ m ∧ (1 : Int) * 2 ^ m ≤ 65536 := pow_small ⟨m, by omega⟩
theorem pow5 (m : Nat) (h : m < 5) : (1 : Int) * 2 ^ m ≤ 16 := pow_five ⟨m, h⟩
section
variable {P : Program} {w : World} {K : PySem.W.Frag} {mg : Str → Option Value} {base : Heap}
theorem ok_sets (DLawSets : Fn K mg "_law_sets" sLawSets ["draw", "names"]) (DLawTake : Fn K mg "_law_take" sLawTake ["draw", "size"]) (b_len : mg "len" = none) (b_list : mg "list" = none) (b_range : mg "range" = none) (b_enumerate : mg "enumerate" = none)
    (GLawTake : FnOk P w K mg base CX0 2 DLawTake.f DLawTake.fd ["draw", "size"] spTake) : FnOk P w K mg base CX0 3 DLawSets.f DLawSets.fd ["draw", "names"] spSets := by
  refine DLawSets.F.ok scLawSets (fun vs H Q E h => ?_) (fun cdv A outer s H vs Q E hr h => ?_)
  · obtain ⟨D, n, a, names, rfl, _⟩ := h
    rfl
  obtain ⟨D, n, a, names, rfl, ha, naD, h16, dr, q⟩ := h
  have line : (100000 : Nat) < sizeLine := by decide
  have hlen : (((names.map V.str).length : Nat) : Int).toNat = names.length := by rw [Int.toNat_natCast, List.length_map]
  refine ⟨_, pss_cut (ps_if (pt_cmpR op_lt (pe_callB (lenE K) (by rfl) b_len (by decide +kernel) (pa_cons (pv 1) pa_nil)) pe_int (nomark _))
      (pss_one (ps_set (i := 2) scLawSets.nd rfl (.inl rfl) (pe_listRg (by rfl) (by rfl) b_list (prg_1 (by rfl) b_range (pe_op op_shl pe_int (pe_callB (lenE K) (by rfl) b_len (by decide +kernel) (pa_cons (pv 1) pa_nil)))))))
      (pss_one (ps_setLc (i := 2) (own := [("k", 4)]) (g := gName 4) (tt := tYes) (by rfl) scLawSets.nd rfl rfl (sw_true rfl rfl rfl (by decide +kernel)) (pi_range1 rfl b_range (pa_cons pe_int pa_nil)) (blkOk_by (N := ["draw", "names", "numbers", "number", "k", "name"]) (sc := defScope sLawSets) (by decide +kernel)) (fun _ _ _ _ _ => (pg_name (i := 4) scLawSets.nd rfl (.inl rfl))) (fun _ _ _ _ _ => pts_nil) (fun _ _ _ _ _ => (pe_op op_and (pe_fn DLawTake GLawTake hr (pa_cons (pv 0) (pa_cons (pe_op op_shl pe_int (pe_callB (lenE K) (by rfl) b_len (by decide +kernel) (pa_cons (pv 1) pa_nil))) pa_nil))) (pe_fn DLawTake GLawTake hr (pa_cons (pv 0) (pa_cons (pe_op op_shl pe_int (pe_callB (lenE K) (by rfl) b_len (by decide +kernel) (pa_cons (pv 1) pa_nil))) pa_nil))))))))
      (pss_one (ps_ret (pe_lc (own := [("number", 3)]) (g := gName 3) (tt := tYes) (by rfl) scLawSets.nd (piListE K (pv 2)) (blkOk_by (N := ["draw", "names", "numbers", "number", "k", "name"]) (sc := defScope sLawSets) (by decide +kernel)) (fun _ _ _ _ _ => (pg_name (i := 3) scLawSets.nd rfl (.inr rfl))) (fun _ _ _ _ _ => pts_nil) (fun _ _ _ _ _ => (pe_lc (own := [("k", 4), ("name", 5)]) (g := gTup K 2 (gCons (gName 4) (gCons (gName 5) gNil))) (by rfl) scLawSets.nd (pi_enumE K (by rfl) b_enumerate (pa_cons (pv 1) pa_nil)) (blkOk_by (N := ["draw", "names", "numbers", "number", "k", "name"]) (sc := { kind := .function, names := [(".0", .local), ("number", .cell), ("enumerate", .globalImplicit), ("names", .cell)], isGenerator := false, isCoroutine := false }) (by decide +kernel)) (fun _ _ _ _ _ => (pg_tupE K (by rfl) (pgs_cons (pg_name (i := 4) scLawSets.nd rfl (.inl rfl)) (pgs_cons (pg_name (i := 5) scLawSets.nd rfl (.inl rfl)) pgs_nil)))) (fun _ _ _ _ _ => (pts_one (pt_cmpR op_eq (pe_op op_and (pe_op op_shr (pv 3) (pv 4)) pe_int) pe_int (nomark _)))) (fun _ _ _ _ _ => (pv 5))))))), ?_⟩
  refine ⟨fun σ H' => ∃ (NB : Addr) (ns : List Int), σ = [some (.ref D.d), some (.ref a), some (.ref NB), none, none, none] ∧ H' NB = some (.lst (ns.map V.int)) ∧ ns.length ≤ 24 ∧ NB ∉ D.all ∧ Kp D.ex H H' ∧ DrAt D n H', ?_, ?_⟩
  · refine ⟨_, rfl, a, _, rfl, .inl (SqL.of ha), ?_⟩
    refine c_of ⟨_, 5, rfl, rfl, _, rfl, ?_⟩
    by_cases h5 : (((names.map V.str).length : Nat) : Int) < 5
    · rw [decide_eq_true h5]
      rw [List.length_map] at h5
      have hp : (1 : Int) * 2 ^ (((names.map V.str).length : Nat) : Int).toNat ≤ 16 := by
        rw [hlen]
        exact pow5 _ (by omega)
      have hp0 := (pow16 names.length h16).1
      rw [← hlen] at hp0
      refine if_t ⟨_, rfl, a, _, rfl, .inl (SqL.of ha), 1, _, rfl, rfl, ⟨by omega, by rw [List.length_map]; omega, by decide⟩, _, rfl, .of_le (by omega) (by omega) (by omega) (by omega), fun p np => ?_⟩
      generalize (1 : Int) * 2 ^ (((names.map V.str).length : Nat) : Int).toNat = m at hp hp0
      refine ⟨p, (List.range (m - 0).toNat).map fun i => (0 : Int) + (i : Nat), rfl, ?_, ?_, dr.fresh np, (Kp.laid np), (dr.keep (Kp.laid np)).less (by omega)⟩
      · rw [upd_same]
        unfold rgV
        rw [List.map_map]
        rfl
      · rw [List.length_map, List.length_range]
        omega
    · rw [decide_eq_false h5]
      refine if_f ⟨24, rfl, by decide, by decide, fun C nC => ?_⟩
      have nCD := dr.fresh nC
      have nAC : a ≠ C := fun y => by rw [← y, ha] at nC; cases nC
      have naC : a ∉ C :: D.ex := fun y => (List.mem_cons.mp y).elim nAC (Dr.sub naD)
      have sz0 : 0 < (1 : Int) * 2 ^ (((names.map V.str).length : Nat) : Int).toNat := by rw [hlen]; exact (pow16 _ h16).1
      have sz1 : (1 : Int) * 2 ^ (((names.map V.str).length : Nat) : Int).toNat < 1073741824 := by
        rw [hlen]
        have := (pow16 _ h16).2
        omega
      have cp : CPow 1 (((names.map V.str).length : Nat) : Int) := ⟨by omega, by rw [List.length_map]; omega, by decide⟩
      refine lc_inv (J := Itr 0 24) 24 (fun i H' => ∃ ns : List Int, Kp (C :: D.ex) (upd H C (.lst [])) H' ∧ H' C = some (.lst (ns.map V.int)) ∧ ns.length = i ∧ DrAt D (n + 2 * (24 - i)) H') ⟨[], Kp.refl, upd_same, rfl, dr.upd nCD⟩ (fun H' ⟨ns, kk, hC, nl, d⟩ => ⟨Nat.le_refl _, ⟨C, ns, rfl, hC, by omega, nCD, ((Kp.laid (ex := []) nC).mono (by simp)).trans kk |>.drop nC, d.less (by omega)⟩⟩) (fun i H' hi _ => hi) ?_
      rintro i H' x H'' hi ⟨ns, kk, hC, nl, d⟩ ⟨rfl, rfl⟩
      have ha' := kk _ _ naC (by rw [upd_ne nAC]; exact ha)
      refine ⟨rfl, yes_on ⟨_, rfl, _, rfl, a, _, rfl, .inl (SqL.of ha'), 1, _, rfl, rfl, cp, D, n + 2 * (24 - (i + 1)) + 1, _, rfl, sz0, sz1, d.less (by omega), fun x H3 x0 x1 k3 d3 => ?_⟩⟩
      have ha3 := k3 _ _ (Dr.sub naD) ha'
      refine ⟨_, rfl, _, rfl, a, _, rfl, .inl (SqL.of ha3), 1, _, rfl, rfl, cp, D, n + 2 * (24 - (i + 1)), _, rfl, sz0, sz1, d3, fun y H4 y0 y1 k4 d4 => ?_⟩
      refine ⟨x, y, rfl, rfl, _, k4 _ _ (Dr.sub nCD) (k3 _ _ (Dr.sub nCD) hC), by rw [List.length_map]; omega, ns ++ [Builtin.bitAnd x y], (kk.trans ((k3.trans k4).mono fun b hb => List.mem_cons_of_mem _ hb)).trans (Kp.put (by simp)), ?_, by rw [List.length_append, nl]; rfl, d4.upd nCD⟩
      rw [upd_same, List.map_append]
      rfl
  · rintro σ H1 ⟨NB, ns, rfl, hNB, nsl, nNB, k1, d1⟩
    have ha1 := k1 _ _ (Dr.sub naD) ha
    refine ⟨_, rfl, NB, rfl, ⟨_, .inl (.inl hNB)⟩, fun GP nGP => ?_⟩
    have nGD := d1.fresh nGP
    have dG : ∀ {H' : Hp}, Kp [GP] (upd H1 GP (.lst [])) H' → Kp [] H1 H' := fun kk => Kp.drop (((Kp.laid (ex := []) nGP).mono (by simp)).trans kk) nGP
    refine lc_list (K := K) (xs := ns.map V.int) (fun i H' => ∃ (gs : List (List Str)) (vs : List V), Kp [GP] (upd H1 GP (.lst [])) H' ∧ H' GP = some (.lst vs) ∧ vs.length = i ∧ (∀ s ∈ gs, s.Sublist names) ∧ RpAll (GP :: D.ex) H' (setsD gs) vs) ⟨[], [], Kp.refl, upd_same, rfl, (fun s hs => by cases hs), rfl⟩ (fun i H' _ ⟨_, _, kk, _⟩ => .inl (.inl (dG kk _ _ (by simp) hNB))) (fun i x H' hx ⟨gs, vs, kk, hG, vl, hgs, hr⟩ => ?_) fun H' ⟨gs, vs, kk, hG, vl, hgs, hr⟩ => ?_
    · obtain ⟨m, rfl⟩ : ∃ m, x = .int m := by
        rw [List.getElem?_map] at hx
        cases hcj : ns[i]? with
        | none => rw [hcj] at hx; cases hx
        | some m => rw [hcj] at hx; exact ⟨m, (Option.some.inj hx).symm⟩
      have hi : i < 24 := by
        have := (List.getElem?_eq_some_iff.mp hx).1
        rw [List.length_map] at this
        omega
      have kH := dG kk
      have ha' := kH _ _ (by simp) ha1
      have dH := d1.keep kH
      refine ⟨rfl, yes_on ⟨_, rfl, a, _, rfl, SqL.of ha', fun C nC => ?_⟩⟩
      have dC : ∀ {H'' : Hp}, Kp [C] (upd H' C (.lst [])) H'' → Kp [] H' H'' := fun kk => Kp.drop (((Kp.laid (ex := []) nC).mono (by simp)).trans kk) nC
      have nGC : GP ≠ C := fun y => by rw [← y, hG] at nC; cases nC
      have nCD := dH.fresh nC
      refine lc_inv (J := Ite K a) names.length (fun j H'' => ∃ s : List Str, Kp [C] (upd H' C (.lst [])) H'' ∧ H'' C = some (.lst (s.map V.str)) ∧ s.length ≤ j ∧ s.Sublist (names.take j)) ⟨[], Kp.refl, upd_same, Nat.le_refl _, List.nil_sublist _⟩ (fun H'' ⟨s, k2, hC, sl, hs⟩ => ⟨⟨_, SqL.of (dC k2 _ _ (by simp) ha'), by rw [List.length_map]; exact Nat.le_refl _⟩, ?_⟩) (fun j H'' hj ⟨s, k2, _⟩ => ⟨_, V.str names[j], SqL.of (dC k2 _ _ (by simp) ha'), by rw [List.getElem?_map, List.getElem?_eq_getElem hj]; rfl⟩) ?_
      · rw [List.take_length] at hs
        have k3 := dC k2
        have hG3 := k3 _ _ (by simp) hG
        have kX : Kp (GP :: D.ex) H'' (upd H'' GP (.lst (vs ++ [.ref C]))) := Kp.put (by simp)
        refine ⟨vs, hG3, by omega, gs ++ [s], vs ++ [.ref C], (kk.trans (k3.mono (by simp))).trans (Kp.put (by simp)), upd_same, by rw [List.length_append, vl]; rfl, fun t ht => ?_, ?_⟩
        · rcases List.mem_append.mp ht with h | h
          · exact hgs t h
          · rw [List.mem_singleton.mp h]; exact hs
        · have nCx : C ∉ GP :: D.ex := fun y => (List.mem_cons.mp y).elim (fun e => nGC e.symm) (Dr.sub nCD)
          have r1 : Rp (GP :: D.ex) H'' (.list (s.map PyData.str)) (.ref C) := strs_list nCx hC
          have e1 : setsD (gs ++ [s]) = setsD gs ++ [PyData.list (s.map PyData.str)] := by
            unfold setsD
            rw [List.map_append]
            rfl
          rw [e1]
          exact RpAll.app (RpAll.keep ((k3.mono (by simp)).trans kX) _ _ hr) (RpAll.one (Rp.keep kX _ _ r1))
      · rintro j H2 x H3 hj ⟨s, k2, hC, sl, hs⟩ ⟨T, y, rfl, nT, rfl, hy⟩
        have hy := hy _ (SqL.of (dC k2 _ _ (by simp) ha'))
        obtain ⟨z, hz, rfl⟩ := txt_at hy
        have kT : Kp [] H2 (upd H2 T (.tup [.int (j : Nat), .str z])) := Kp.laid nT
        have hT : (upd H2 T (.tup [.int (j : Nat), .str z])) T = some (.tup [.int (j : Nat), .str z]) := upd_same
        have hC3 := kT _ _ (by simp) hC
        generalize upd H2 T (.tup [.int (j : Nat), .str z]) = H3 at kT hT hC3 ⊢
        have htk : names.take (j + 1) = names.take j ++ [z] := by rw [List.take_add_one, hz]; rfl
        refine ⟨T, _, rfl, .inl (.inl hT), rfl, _, _, rfl, _, _, rfl, rfl, rfl, ?_⟩
        refine ⟨_, rfl, _, rfl, m, (j : Int), rfl, rfl, by omega, c_of ⟨_, 1, rfl, rfl, c_of ⟨rfl, _, rfl, ?_⟩⟩⟩
        by_cases hb : V.int (Builtin.bitAnd (m / 2 ^ ((j : Nat) : Int).toNat) 1) = V.int 1
        · rw [decide_eq_true hb]
          refine if_t ⟨_, rfl, _, hC3, by rw [List.length_map]; omega, s ++ [z], (k2.trans (kT.mono (by simp))).trans (Kp.put (by simp)), ?_, by rw [List.length_append, List.length_singleton]; omega, ?_⟩
          · rw [upd_same, List.map_append]
            rfl
          · rw [htk]
            exact hs.append (List.Sublist.refl _)
        · rw [decide_eq_false hb]
          refine if_f ⟨s, k2.trans (kT.mono (by simp)), hC3, by omega, ?_⟩
          rw [htk]
          exact hs.trans (List.sublist_append_left _ _)
    · have kH := dG kk
      exact q gs GP H' hgs (k1.none_before nGP d1) ⟨GP, vs, rfl, Dr.sub nGD, hG, RpAll.less (fun b hb => List.mem_cons_of_mem _ hb) _ _ hr⟩ (k1.trans (kH.mono (by simp))) (d1.keep kH)
end
end NV
/-! W8 -/
set_option Elab.async false
set_option linter.all false
set_option maxRecDepth 100000
set_option maxHeartbeats 1000000
/-! the package's costs as values -/
namespace NV
open PySem PySem.Spec PyProof.Rows L2
open C8 (pss_cut pe_gc)
theorem paired_at {α β : Type} {R : α → β → Prop} : ∀ {xs : List α} {ys : List β} {i : Nat} {x : α}, Paired R xs ys → xs[i]? = some x → ∃ y, ys[i]? = some y ∧ R x y
  | _ :: _, _ :: _, 0, x, .cons h _, e => ⟨_, rfl, by cases e; exact h⟩
  | _ :: _, _ :: _, i + 1, x, .cons _ t, e => by
    obtain ⟨y, hy, r⟩ := paired_at t (i := i) (x := x) (by simpa using e)
    exact ⟨y, by simpa using hy, r⟩
def costV : Cost → V
  | none => .non
  | some i => .int i
def costKV (l : List (Str × Cost)) : List (Key × V) := l.map fun x => ((Sum.inr x.1 : Key), costV x.2)
def spCosts : Sp := fun vs H Q _ => ∃ (v : V) (es : List Ent) (ex : List Addr), vs = [v] ∧ Rp ex H (logD es) v ∧ LogOk es ∧ es.length ≤ 60 ∧ Live ex H ∧ ∀ cd H', Kp [] H H' → H cd = none → H' cd = some (.dK (costKV (costsL es))) → Q (.ref cd) H'
end NV
/-! M2 -/
set_option Elab.async false
set_option linter.all false
set_option maxRecDepth 100000
set_option maxHeartbeats 1000000
/-! what the law asks of logs, cut and joined -/
namespace NV
open PySem PySem.Spec PyProof.Rows L2
theorem cost_of {l : List (Str × Cost)} {n : Str} {x : Cost} (nd : (l.map (·.1)).Nodup) (h : (n, x) ∈ l) : valV (costKV l) (Sum.inr n : Key) = some (costV x) := by
  induction l with
  | nil => cases h
  | cons p l ih =>
    rw [List.map_cons] at nd
    have nn := List.nodup_cons.mp nd
    rcases List.mem_cons.mp h with e | e
    · rw [← e]
      exact valV_pos (p := ((Sum.inr n : Key), costV x)) rfl
    · have ne : p.1 ≠ n := fun z => nn.1 (List.mem_map.mpr ⟨_, e, z.symm⟩)
      have e1 : valV (costKV (p :: l)) (Sum.inr n : Key) = valV (costKV l) (Sum.inr n : Key) := valV_neg (p := ((Sum.inr p.1 : Key), costV p.2)) (fun z => ne (Sum.inr.inj z))
      rw [e1]
      exact ih nn.2 e
theorem costs_nd {es : List Ent} (h : LogOk es) : ((costsL es).map (·.1)).Nodup := by
  rw [costsL_names]
  exact h.nd.sublist (List.filter_sublist.map _)
/-- the last write, where there is one -/
theorem last_write : ∀ {es : List Ent}, es.filter Ent.isW ≠ [] → ∃ pre e rest, es = pre ++ e :: rest ∧ e.isW = true ∧ ∀ u ∈ rest, u.isW = false
  | [], h => absurd rfl h
  | u :: es, h => by
    by_cases h2 : es.filter Ent.isW = []
    · refine ⟨[], u, es, rfl, ?_, fun v hv => ?_⟩
      · cases hu : u.isW with
        | true => rfl
        | false =>
          rw [List.filter_cons, hu] at h
          exact absurd h2 (by simpa using h)
      · cases hw : v.isW with
        | false => rfl
        | true =>
          have : v ∈ es.filter Ent.isW := List.mem_filter.mpr ⟨hv, hw⟩
          rw [h2] at this
          cases this
    · obtain ⟨pre, e, rest, h3, h4, h5⟩ := last_write h2
      exact ⟨u :: pre, e, rest, by rw [h3]; rfl, h4, h5⟩
theorem costs_mem {pre rest : List Ent} {e : Ent} (hw : e.isW = true) : (e.id, costW (wayFrom (onB rest) e.ws)) ∈ costsL (pre ++ e :: rest) := by
  induction pre with
  | nil =>
    show _ ∈ (if e.isW then [(e.id, costW (wayFrom (onB rest) e.ws))] else []) ++ costsL rest
    rw [hw]
    simp
  | cons u pre ih => exact List.mem_append_right _ ih
/-- its name is the last, its cost is 0 -/
theorem last_cost {es : List Ent} (ok : LogOk es) (h : es.filter Ent.isW ≠ []) : ∃ n, ((es.filter Ent.isW).map Ent.id)[((es.filter Ent.isW).map Ent.id).length - 1]? = some n ∧ valV (costKV (costsL es)) (Sum.inr n : Key) = some (.int 0) := by
  obtain ⟨pre, e, rest, he, hw, hr⟩ := last_write h
  have hf : es.filter Ent.isW = pre.filter Ent.isW ++ [e] := by
    rw [he, List.filter_append, List.filter_cons, hw]
    have : rest.filter Ent.isW = [] := List.filter_eq_nil_iff.mpr fun u hu => by rw [hr u hu]; exact Bool.false_ne_true
    rw [this]
    rfl
  refine ⟨e.id, ?_, ?_⟩
  · rw [hf, List.map_append, List.length_append]
    simp
  · have hm : e ∈ es := by rw [he]; simp
    have := costs_mem (pre := pre) (rest := rest) hw
    rw [last_free (pre := pre) hw (ok.ok e hm) hr, ← he] at this
    exact cost_of (costs_nd ok) this
end NV
/-! X2 -/
set_option Elab.async false
set_option linter.all false
set_option maxRecDepth 100000
set_option maxHeartbeats 600000
/-! costs edge by edge -/
namespace NV
open PySem PySem.Spec PyProof.Rows L2
def minC : Cost → Cost → Cost
  | none, y => y
  | x, none => x
  | some a, some b => some (min a b)
def addC : Cost → Cost → Cost
  | some a, some b => some (a + b)
  | _, _ => none
theorem minC_none (x : Cost) : minC x none = x := by cases x <;> rfl
theorem minC_assoc (x y z : Cost) : minC (minC x y) z = minC x (minC y z) := by
  cases x <;> cases y <;> cases z <;> simp [minC, Int.min_assoc]
theorem addC_zero (x : Cost) : addC (some 0) x = x := by
  cases x <;> simp [addC]
theorem addC_assoc (x y z : Cost) : addC (addC x y) z = addC x (addC y z) := by
  cases x <;> cases y <;> cases z <;> simp [addC, Int.add_assoc]
theorem addC_comm (x y : Cost) : addC x y = addC y x := by
  cases x <;> cases y <;> simp [addC, Int.add_comm]
theorem addC_min (t x y : Cost) : addC t (minC x y) = minC (addC t x) (addC t y) := by
  cases t <;> cases x <;> cases y <;> simp [addC, minC]
def minL : List Cost → Cost
  | [] => none
  | x :: l => minC x (minL l)
theorem minL_app : ∀ l m : List Cost, minL (l ++ m) = minC (minL l) (minL m)
  | [], m => rfl
  | x :: l, m => by
    show minC x (minL (l ++ m)) = minC (minC x (minL l)) (minL m)
    rw [minL_app l m, minC_assoc]
theorem minL_fold : ∀ (l : List Cost) (a : Cost), l.foldl minC a = minC a (minL l)
  | [], a => (minC_none a).symm
  | x :: l, a => by
    show l.foldl minC (minC a x) = minC a (minC x (minL l))
    rw [minL_fold l, minC_assoc]
theorem minL_some {l : List Cost} : ∀ {b : Int}, minL l = some b ↔ some b ∈ l ∧ ∀ b', some b' ∈ l → b ≤ b' := by
  induction l with
  | nil => intro b; simp [minL]
  | cons x l ih =>
    intro b
    show minC x (minL l) = some b ↔ _
    cases x with
    | none =>
      show minL l = some b ↔ _
      rw [ih]
      simp
    | some a =>
      cases hm : minL l with
      | none =>
        have no : ∀ b', some b' ∉ l := by
          intro b' hb'
          clear ih
          induction l with
          | nil => cases hb'
          | cons y l ihl =>
            have hm : minC y (minL l) = none := hm
            cases y with
            | none => exact ihl hm ((List.mem_cons.mp hb').resolve_left (by simp))
            | some c =>
              cases h : minL l with
              | none => rw [h] at hm; cases hm
              | some d => rw [h] at hm; cases hm
        show some a = some b ↔ _
        constructor
        · intro e
          cases e
          exact ⟨List.mem_cons_self, fun b' h => by
            rcases List.mem_cons.mp h with z | z
            · cases z; exact Int.le_refl _
            · exact absurd z (no b')⟩
        · rintro ⟨h, _⟩
          rcases List.mem_cons.mp h with z | z
          · exact z.symm
          · exact absurd z (no b)
      | some c =>
        have hc := ih.mp hm
        show some (min a c) = some b ↔ _
        constructor
        · intro e
          have e : min a c = b := Option.some.inj e
          refine ⟨?_, fun b' h => ?_⟩
          · by_cases hac : a ≤ c
            · have : a = b := by omega
              rw [this]; exact List.mem_cons_self
            · have : c = b := by omega
              rw [← this]; exact List.mem_cons_of_mem _ hc.1
          · rcases List.mem_cons.mp h with z | z
            · cases z; omega
            · have := hc.2 b' z; omega
        · rintro ⟨h, low⟩
          congr 1
          have h1 := low a List.mem_cons_self
          have h2 := low c (List.mem_cons_of_mem _ hc.1)
          rcases List.mem_cons.mp h with z | z
          · cases z; omega
          · have := hc.2 b z; omega
theorem from_min (o : Str → Way) (cs : List Str) : costW (wayFrom o cs) = minL (cs.map fun c => costW (o c)) := by
  cases h : costW (wayFrom o cs) with
  | some b =>
    obtain ⟨⟨c, hc, hoc⟩, low⟩ := from_some h
    symm
    rw [minL_some]
    refine ⟨List.mem_map.mpr ⟨c, hc, hoc⟩, fun b' hb' => ?_⟩
    obtain ⟨d, hd, hod⟩ := List.mem_map.mp hb'
    exact low d hd b' hod
  | none =>
    cases h2 : minL (cs.map fun c => costW (o c)) with
    | none => rfl
    | some b =>
      obtain ⟨c, hc, hoc⟩ := List.mem_map.mp (minL_some.mp h2).1
      obtain ⟨b', hb', _⟩ := from_le hc hoc
      rw [h] at hb'
      cases hb'
/-! ### edges -/
abbrev Edge := Nat × Str × List Nat
def edgesF (c : Str) : Nat → List Nat → List Ent → List Edge
  | k, btw, [] => [(k, c, btw)]
  | k, btw, e :: rest => (if c ∈ e.rs then [(k, c, btw)] else []) ++ edgesF c (k + 1) (if c ∈ e.ws then btw ++ [k] else btw) rest
def prAt (es : List Ent) (k : Nat) : Cost := match es[k]? with
  | some e => e.pr
  | none => none
def total : List Cost → Cost
  | [] => some 0
  | x :: l => addC x (total l)
theorem total_app : ∀ l m : List Cost, total (l ++ m) = addC (total l) (total m)
  | [], m => (addC_zero _).symm
  | x :: l, m => by
    show addC x (total (l ++ m)) = addC (addC x (total l)) (total m)
    rw [total_app l m, addC_assoc]
/-- what is paid from the entry at k on -/
def labAt (es : List Ent) (k : Nat) : Cost := match es[k]? with
  | some e => if e.isW then costW (wayFrom (onB (es.drop (k + 1))) e.ws) else some 0
  | none => some 0
def edgeC (es : List Ent) (x : Edge) : Cost := addC (total (x.2.2.map (prAt es))) (labAt es x.1)
theorem cost_reads (e : Ent) (w : Way) (o : Str → Way) (c : Str) : costW (readers e w o c) = if c ∈ e.rs then minC (costW w) (costW (o c)) else costW (o c) := by
  unfold readers
  by_cases hc : c ∈ e.rs
  · rw [if_pos hc, if_pos hc]
    match w with
    | none => rfl
    | some (k, p) =>
      show costW (better _ (o c)) = _
      rw [cost_better]
      show _ = minC (some k) _
      cases costW (o c) <;> rfl
  · rw [if_neg hc, if_neg hc]
theorem cost_past_add (pr : Option Int) (w : Way) : costW (past pr w) = addC pr (costW w) := by
  match w, pr with
  | none, none => rfl
  | none, some i => rfl
  | some (k, p), none => rfl
  | some (k, p), some i =>
    show some (k + i) = some (i + k)
    rw [Int.add_comm]
def labE (e : Ent) (rest : List Ent) : Cost := if e.isW then costW (wayFrom (onB rest) e.ws) else some 0
def blkE (e : Ent) (rest : List Ent) (c : Str) : Cost := if c ∈ e.ws then addC e.pr (costW (onB rest c)) else costW (onB rest c)
theorem cost_on (e : Ent) (rest : List Ent) (c : Str) : costW (onB (e :: rest) c) = if c ∈ e.rs then minC (labE e rest) (blkE e rest c) else blkE e rest c := by
  cases e with
  | wr id rs ws pr =>
    have hb : costW (blocked (.wr id rs ws pr) (onB rest) c) = blkE (.wr id rs ws pr) rest c := by
      unfold blocked blkE
      by_cases hc : c ∈ (Ent.wr id rs ws pr).ws
      · rw [if_pos hc, if_pos hc]
        exact cost_past_add _ _
      · rw [if_neg hc, if_neg hc]
    rw [← hb]
    exact cost_reads _ _ _ _
  | qu id cs =>
    have hb : costW (onB rest c) = blkE (.qu id cs) rest c := by
      unfold blkE
      rw [if_neg (by intro z; cases z)]
    rw [← hb]
    exact cost_reads (.qu id cs) (some (0, [])) (onB rest) c
theorem edges_min (es : List Ent) (c : Str) : ∀ (rest : List Ent) (k : Nat) (btw : List Nat), es.drop k = rest → minL ((edgesF c k btw rest).map (edgeC es)) = addC (total (btw.map (prAt es))) (costW (onB rest c))
  | [], k, btw, h => by
    have hk : es[k]? = none := by
      rw [List.getElem?_eq_none]
      have := congrArg List.length h
      rw [List.length_drop] at this
      simp at this
      omega
    show minC (edgeC es (k, c, btw)) none = _
    rw [minC_none]
    unfold edgeC labAt
    rw [hk]
    rfl
  | e :: rest, k, btw, h => by
    have hlt : k < es.length := by
      rcases Nat.lt_or_ge k es.length with h1 | h1
      · exact h1
      · rw [List.drop_eq_nil_of_le h1] at h; cases h
    rw [List.drop_eq_getElem_cons hlt] at h
    obtain ⟨he, hr⟩ := List.cons.inj h
    have hk : es[k]? = some e := by rw [List.getElem?_eq_getElem hlt, he]
    have ih := edges_min es c rest (k + 1) (if c ∈ e.ws then btw ++ [k] else btw) hr
    have hl : edgeC es (k, c, btw) = addC (total (btw.map (prAt es))) (labE e rest) := by
      unfold edgeC labAt labE
      rw [hk, hr]
    have hb : addC (total ((if c ∈ e.ws then btw ++ [k] else btw).map (prAt es))) (costW (onB rest c)) = addC (total (btw.map (prAt es))) (blkE e rest c) := by
      unfold blkE
      by_cases hc : c ∈ e.ws
      · rw [if_pos hc, if_pos hc, List.map_append, total_app, addC_assoc]
        congr 1
        show addC (addC (prAt es k) (some 0)) _ = _
        rw [addC_comm (prAt es k), addC_zero]
        unfold prAt
        rw [hk]
      · rw [if_neg hc, if_neg hc]
    rw [hb] at ih
    rw [cost_on]
    show minL (((if c ∈ e.rs then [(k, c, btw)] else []) ++ edgesF c (k + 1) (if c ∈ e.ws then btw ++ [k] else btw) rest).map (edgeC es)) = _
    rw [List.map_append, minL_app, ih]
    by_cases hc : c ∈ e.rs
    · rw [if_pos hc, if_pos hc, addC_min]
      congr 1
      show minC (edgeC es (k, c, btw)) none = _
      rw [minC_none, hl]
    · rw [if_neg hc, if_neg hc]
      rfl
def edgesL (es : List Ent) (one : Nat) : List Edge := match es[one]? with
  | some e => e.ws.flatMap fun c => edgesF c (one + 1) [] (es.drop (one + 1))
  | none => []
theorem edgesL_min {es : List Ent} {one : Nat} {e : Ent} (h : es[one]? = some e) : minL ((edgesL es one).map (edgeC es)) = costW (wayFrom (onB (es.drop (one + 1))) e.ws) := by
  unfold edgesL
  rw [h, from_min]
  dsimp only
  generalize e.ws = cs
  induction cs with
  | nil => rfl
  | cons c cs ih =>
    rw [List.flatMap_cons, List.map_append, minL_app, ih, List.map_cons]
    show _ = minC _ (minL (cs.map _))
    congr 1
    rw [edges_min es c _ _ _ rfl]
    exact addC_zero _
/-- what the loop makes of an edge -/
theorem total_none {l : List Cost} (h : none ∈ l) : total l = none := by
  induction l with
  | nil => cases h
  | cons x l ih =>
    show addC x (total l) = none
    rcases List.mem_cons.mp h with z | z
    · rw [← z]; rfl
    · rw [ih z]; cases x <;> rfl
theorem total_sum : ∀ {l : List Int}, total (l.map some) = some l.sum
  | [] => rfl
  | x :: l => by
    show addC (some x) (total (l.map some)) = _
    rw [total_sum]
    rfl
end NV
/-! Y1 -/
set_option Elab.async false
set_option linter.all false
set_option maxRecDepth 100000
set_option maxHeartbeats 600000
/-! the package's kept_entries -/
namespace NV
open PySem PySem.Spec PyProof.Rows L2
open C8 (pss_cut pe_gc)
abbrev sCheckBudget : Stmt := topS 50
theorem scCheckBudget : FnScope ["budget"] ["budget"] (defScope sCheckBudget) := ⟨rfl, rfl, rfl, by decide +kernel, rfl, by decide +kernel, by decide +kernel⟩
abbrev sIsWithin : Stmt := topS 51
theorem scIsWithin : FnScope ["way", "budget"] ["way", "budget"] (defScope sIsWithin) := ⟨rfl, rfl, rfl, by decide +kernel, rfl, by decide +kernel, by decide +kernel⟩
abbrev sKeptEntries : Stmt := topS 52
theorem scKeptEntries : FnScope ["log", "budget", "ways", "entry"] ["log", "budget"] (defScope sKeptEntries) := ⟨rfl, rfl, rfl, by decide +kernel, rfl, by decide +kernel, by decide +kernel⟩
/-! ### what is kept, by position -/
def keepAt (B : Int) (es : List Ent) (d : Ent) (j : Nat) : Bool := keeps B (es.getD j d) (onB (es.drop (j + 1)))
theorem kept_range (B : Int) (d : Ent) : ∀ es : List Ent, keptB B es = ((List.range es.length).filter (keepAt B es d)).map fun j => es.getD j d
  | [] => rfl
  | e :: M => by
    have ih := kept_range B d M
    show (if keeps B e (onF M endW) then [e] else []) ++ keptB B M = _
    rw [List.length_cons, List.range_succ_eq_map, List.filter_cons]
    have h0 : keepAt B (e :: M) d 0 = keeps B e (onF M endW) := by
      unfold keepAt
      rw [onB_F]
      rfl
    have hm : ((List.range M.length).map Nat.succ).filter (keepAt B (e :: M) d) = ((List.range M.length).filter (keepAt B M d)).map Nat.succ := by
      rw [List.filter_map]
      rfl
    have ht : (((List.range M.length).filter (keepAt B M d)).map Nat.succ).map (fun j => (e :: M).getD j d) = keptB B M := by
      rw [ih, List.map_map]
      rfl
    rw [h0, hm]
    cases keeps B e (onF M endW) with
    | true =>
      rw [if_pos rfl, if_pos rfl, List.map_cons, ht]
      rfl
    | false =>
      rw [if_neg (by simp), if_neg (by simp), ht]
      rfl
theorem rp_pick {ex : List Addr} {H : Hp} {es : List Ent} {xs : List V} (hx : RpAll ex H (es.map Ent.data) xs) (d : Ent) : ∀ l : List Nat, (∀ j ∈ l, j < es.length) → RpAll ex H ((l.map fun j => es.getD j d).map Ent.data) (l.map fun j => xs.getD j .non)
  | [], _ => rfl
  | j :: l, h => by
    have hj := h j List.mem_cons_self
    obtain ⟨v, hv, rv⟩ := RpAll.at hx (show (es.map Ent.data)[j]? = some (es.getD j d).data by rw [List.getElem?_map, List.getD_eq_getElem?_getD, List.getElem?_eq_getElem hj]; rfl)
    refine ⟨v, _, ?_, rv, rp_pick hx d l fun i hi => h i (List.mem_cons_of_mem _ hi)⟩
    rw [List.map_cons, List.getD_eq_getElem?_getD, hv]
    rfl
theorem ways_mem {pre rest : List Ent} {e : Ent} (hw : e.isW = true) : (e.id, wayFrom (onB rest) e.ws) ∈ waysB (pre ++ e :: rest) := by
  induction pre with
  | nil =>
    show _ ∈ waysB rest ++ (if e.isW then [(e.id, wayFrom (onB rest) e.ws)] else [])
    rw [hw]
    simp
  | cons u pre ih => exact List.mem_append_left _ ih
theorem way_val {ex : List Addr} {H : Hp} {n : Str} {w : Way} : ∀ {ws : List (Str × Way)} {kvs : List (Key × V)}, (ws.map (·.1)).Nodup → kvs.map (·.1) = ws.map (fun x => (Sum.inr x.1 : Key)) → RpAll ex H (ws.map fun x => wayD x.2) (kvs.map (·.2)) → (n, w) ∈ ws → ∃ v, valV kvs (Sum.inr n : Key) = some v ∧ Rp ex H (wayD w) v
  | [], _, _, _, _, h => by cases h
  | p :: ws, [], _, n1, _, _ => by cases n1
  | p :: ws, q :: kvs, nd, n1, r, h => by
    rw [List.map_cons, List.map_cons] at n1
    obtain ⟨hq, n2⟩ := List.cons.inj n1
    rw [List.map_cons] at nd
    have nn := List.nodup_cons.mp nd
    rw [List.map_cons, List.map_cons] at r
    obtain ⟨v, vs, e, r1, r2⟩ := r
    obtain ⟨rfl, rfl⟩ := List.cons.inj e
    rcases List.mem_cons.mp h with z | z
    · exact ⟨q.2, by rw [valV_pos (p := q) (by rw [hq, ← z])], by rw [← z] at r1; exact r1⟩
    · have ne : p.1 ≠ n := fun y => nn.1 (List.mem_map.mpr ⟨_, z, y.symm⟩)
      obtain ⟨v, hv, rv⟩ := way_val nn.2 n2 r2 z
      exact ⟨v, by rw [valV_neg (p := q) (fun y => by rw [hq] at y; exact ne (Sum.inr.inj y))]; exact hv, rv⟩
theorem ways_nd {es : List Ent} (h : (es.map Ent.id).Nodup) : ((waysB es).map (·.1)).Nodup := by
  rw [waysB_ids]
  unfold List.Nodup
  rw [List.pairwise_reverse]
  exact List.Pairwise.imp (fun h => Ne.symm h) (h.sublist (List.filter_sublist.map _))
def spBudget : Sp := fun vs H Q _ => ∃ B : Int, vs = [.int B] ∧ 0 ≤ B ∧ B ≤ 999 ∧ Q .non H
def spIn : Sp := fun vs H Q _ => ∃ (v : V) (w : Way) (ex : List Addr) (B : Int), vs = [v, .int B] ∧ Rp ex H (wayD w) v ∧ Q (.bl (within B (costW w))) H
def spKept : Sp := fun vs H Q _ => ∃ (v : V) (es : List Ent) (ex : List Addr) (B : Int), vs = [v, .int B] ∧ Rp ex H (logD es) v ∧ LogOk es ∧ es.length ≤ 60 ∧ Live ex H ∧ ∀ p H', Kp [] H H' → Rp ex H' (logD (keptB B es)) (.ref p) → Q (.ref p) H'
section
variable {P : Program} {w : World} {K : PySem.W.Frag} {mg : Str → Option Value} {base : Heap}
theorem ok_budget (DCheckBudget : Fn K mg "check_budget" sCheckBudget ["budget"]) (DIsIntegerWithin : Fn K mg "is_integer_within" sIsIntegerWithin ["value", "lowest", "highest"]) (g1 : ∃ u, mg "HIGHEST_BUDGET" = some u ∧ L2.RelV (.int 999) u)
    (GIsIntegerWithin : FnOk P w K mg base CX0 1 DIsIntegerWithin.f DIsIntegerWithin.fd ["value", "lowest", "highest"] spWithin) : FnOk P w K mg base CX0 2 DCheckBudget.f DCheckBudget.fd ["budget"] spBudget := by
  refine DCheckBudget.F.ok scCheckBudget (fun vs H Q E h => ?_) (fun cdv A outer s H vs Q E hr h => ?_)
  · obtain ⟨B, rfl, _⟩ := h
    rfl
  obtain ⟨B, rfl, h0, h1, q⟩ := h
  refine ⟨_, pss_one (ps_if (pt_not (pt_val (pe_fn DIsIntegerWithin GIsIntegerWithin hr (pa_cons (pv 0) (pa_cons pe_int (pa_cons (pe_gc (v := .int 999) rfl g1) pa_nil))))))
      (pss_one (ps_dead _))
      pss_nil), ?_⟩
  refine ⟨_, rfl, .int B, .int B, [], 0, 999, rfl, rfl, _, rfl, ?_⟩
  have e : withinD 0 999 (.int B) = true := by
    show (decide (0 ≤ B) && decide (B ≤ 999)) = true
    rw [decide_eq_true h0, decide_eq_true h1]
    rfl
  rw [e]
  exact iteF q
theorem ok_in (DIsWithin : Fn K mg "is_within" sIsWithin ["way", "budget"]) : FnOk P w K mg base CX0 1 DIsWithin.f DIsWithin.fd ["way", "budget"] spIn := by
  refine DIsWithin.F.ok scIsWithin (fun vs H Q E h => ?_) (fun cdv A outer s H vs Q E hr h => ?_)
  · obtain ⟨v, y, ex, B, rfl, _⟩ := h
    rfl
  obtain ⟨v, y, ex, B, rfl, rv, q⟩ := h
  refine ⟨_, pss_one (ps_ret (pe_and (pe_cmpR op_notN (pv 0) pe_non (nomark _)) (pe_one (pe_cmpR op_le (pe_ix (ixtE K) (pv 0) pe_int (fun _ _ => rfl)) (pv 1) (nomark _))))), ?_⟩
  refine ⟨_, rfl, rfl, _, rfl, ?_⟩
  cases y with
  | none =>
    obtain rfl : v = .non := rv
    exact iteF q
  | some x =>
    obtain ⟨a, xs, rfl, _, ha, hx⟩ := rv
    refine iteT ⟨_, rfl, c_of (ixD (j := 0) rfl ha hx rfl fun u ru => ?_)⟩
    obtain rfl : u = .int x.1 := ru
    exact ⟨_, rfl, _, _, rfl, rfl, q⟩
theorem ok_kept (DKeptEntries : Fn K mg "kept_entries" sKeptEntries ["log", "budget"]) (DCheapestWays : FnD K mg "cheapest_ways" sCheapestWays ["log", "labels"] [.non]) (DIsWithin : Fn K mg "is_within" sIsWithin ["way", "budget"]) (b_tuple : mg "tuple" = none)
    (g0 : ∃ u, mg "KIND" = some u ∧ L2.RelV (.int 0) u) (g1 : ∃ u, mg "ID" = some u ∧ L2.RelV (.int 1) u)
    (GCheapestWays : FnOk P w K mg base CX0 4 DCheapestWays.f DCheapestWays.fd ["log", "labels"] spWays) (GIsWithin : FnOk P w K mg base CX0 1 DIsWithin.f DIsWithin.fd ["way", "budget"] spIn) :
    FnOk P w K mg base CX0 5 DKeptEntries.f DKeptEntries.fd ["log", "budget"] spKept := by
  refine DKeptEntries.F.ok scKeptEntries (fun vs H Q E h => ?_) (fun cdv A outer s H vs Q E hr h => ?_)
  · obtain ⟨v, es, ex, B, rfl, _⟩ := h
    rfl
  obtain ⟨v, es, ex, B, rfl, rv, ok, h60, lv, q⟩ := h
  have hu := hu_of hr
  refine ⟨_, pss_cons (ps_set (i := 2) scKeptEntries.nd rfl (.inr rfl) (pe_fd DCheapestWays GCheapestWays hr (pa_cons (pv 0) pa_nil)))
      (pss_one (ps_ret (pe_callTy call_tuple_of (by rfl) b_tuple (by decide +kernel) (pa_cons (pe_lc (own := [("entry", 3)]) (g := gName 3) (by rfl) scKeptEntries.nd (piTupE K (pv 0)) (blkOk_by (N := ["log", "budget", "ways", "entry"]) (sc := defScope sKeptEntries) (by decide +kernel)) (fun _ _ _ _ _ => (pg_name (i := 3) scKeptEntries.nd rfl (.inl rfl))) (fun _ _ _ _ _ => (pts_one (PW.pt (pw_or (pt_cmpR op_eq (pe_ix (ixtE K) (pv 3) (pe_gc (v := .int 0) rfl g0) (fun _ _ => rfl)) pe_str (nomark _)) (pw_or1 (pt_val (pe_fn DIsWithin GIsWithin hr (pa_cons (pe_dget hu (pv 2) (pe_ix (ixtE K) (pv 3) (pe_gc (v := .int 1) rfl g1) (fun _ _ => rfl)) (fun _ _ => rfl)) (pa_cons (pv 1) pa_nil))))))))) (fun _ _ _ _ _ => (pv 3))) pa_nil)))), ?_⟩
  refine ⟨_, rfl, v, es, ex, rfl, rv, ok.ok, ok.nd, by omega, lv, fun wd H2 k2 nwd ws => ?_⟩
  obtain ⟨a, xs, rfl, na, ha, hx⟩ := Rp.keep (k2.mono (ex' := ex) (by simp)) _ _ rv
  have lv2 := lv.kp0 k2
  obtain ⟨kvs, ek, names, vals⟩ := ws.at_
  have hl : es.length = xs.length := by
    have := hx.length
    rwa [List.length_map] at this
  have line : (1000 : Nat) < sizeLine := by decide
  let d0 : Ent := .qu "" []
  refine ⟨_, rfl, a, rfl, ⟨xs, .inl (.inl ha)⟩, fun C nC => ?_⟩
  refine lc_growT (fun j => keepAt B es d0 j) (fun j => xs.getD j .non) (.inl (.inl ha)) nC (by omega) (fun j x H8 Q8 hxj k8 q8 => ?_) (fun j x H8 Q8 hxj hpj k8 q8 => ?_) fun H8 k8 e8 => ?_
  · have hj : j < es.length := by
      have := (List.getElem?_eq_some_iff.mp hxj).1
      omega
    have hej : es[j]? = some (es.getD j d0) := by rw [List.getD_eq_getElem?_getD, List.getElem?_eq_getElem hj]; rfl
    generalize he : es.getD j d0 = e at hej
    have rx : Rp ex H2 e.data x := by
      obtain ⟨v, hv, rv⟩ := RpAll.at hx (show (es.map Ent.data)[j]? = some e.data by rw [List.getElem?_map, hej]; rfl)
      rw [hxj] at hv
      rw [Option.some.inj hv]
      exact rv
    have r8 := Rp.keep (k8.mono (ex' := C :: ex) (by simp)) _ _ (Rp.apart nC _ _ rx)
    obtain ⟨ds, ed, hd0⟩ := ent_kind e
    obtain ⟨d1, ed1, hd1, _⟩ := ent_reads e
    refine ⟨_, rfl, c_of (ent_ix r8 ed hd0 rfl fun vk rk => ?_)⟩
    obtain rfl : vk = .str (if e.isW then "write" else "query") := rk
    refine ⟨rfl, _, rfl, ?_⟩
    have hp : keepAt B es d0 j = keeps B e (onB (es.drop (j + 1))) := by
      unfold keepAt
      rw [he]
    rw [hp] at q8
    cases hw : e.isW with
    | false =>
      rw [show decide (V.str (if false = true then ("write" : Str) else "query") = V.str "query") = true from decide_eq_true rfl]
      refine iteT ?_
      have : keeps B e (onB (es.drop (j + 1))) = true := by
        unfold keeps
        rw [hw]
        rfl
      rw [this] at q8
      exact q8 _ Kp.refl
    | true =>
      rw [show decide (V.str (if true = true then ("write" : Str) else "query") = V.str "query") = false from decide_eq_false (by intro h; exact absurd (V.str.inj h) (by decide))]
      have hm := ways_mem (pre := es.take j) (rest := es.drop (j + 1)) hw
      rw [← split_at_ hej] at hm
      obtain ⟨u, hu1, ru⟩ := way_val (ways_nd ok.nd) names vals hm
      have nwC : wd ≠ C := fun z => by rw [← z, ek] at nC; cases nC
      refine iteF ⟨_, rfl, _, rfl, c_of (ent_ix r8 ed1 hd1 rfl fun vi ri => ?_)⟩
      obtain rfl : vi = .str e.id := ri
      refine ⟨wd, u, rfl, by rw [← hu1]; exact DGet.k (k := Sum.inr e.id) (k8 _ _ (by simpa using nwC) ek), _, rfl, u, _, C :: ex, B, rfl, Rp.keep (k8.mono (ex' := C :: ex) (by simp)) _ _ (Rp.apart nC _ _ ru), _, rfl, ?_⟩
      have : keeps B e (onB (es.drop (j + 1))) = within B (costW (wayFrom (onB (es.drop (j + 1))) e.ws)) := by
        unfold keeps
        rw [hw]
        rfl
      rw [this] at q8
      exact q8 _ Kp.refl
  · refine ⟨x, rfl, ?_⟩
    have : xs.getD j .non = x := by rw [List.getD_eq_getElem?_getD, hxj]; rfl
    rw [← this]
    exact q8 _ Kp.refl
  · have k28 : Kp [] H2 H8 := Kp.drop k8 nC
    have hx8 : RpAll ex H8 (es.map Ent.data) xs := RpAll.keep (k28.mono (by simp)) _ _ hx
    have hp := rp_pick hx8 d0 ((List.range es.length).filter (keepAt B es d0)) fun j hj => List.mem_range.mp (List.mem_filter.mp hj).1
    rw [← kept_range] at hp
    rw [← hl] at e8
    refine ⟨C, _, rfl, .inl ⟨.inl (.inl e8), fun l nl => ?_⟩⟩
    have kl : Kp [] H8 (upd H8 l (.tup (((List.range es.length).filter fun j => keepAt B es d0 j).map fun j => xs.getD j .non))) := Kp.laid nl
    exact q l _ ((k2.trans k28).trans kl) (rp_new ((lv2.kp0 k28).fresh nl) nl hp)
end
end NV
/-! Y2c -/
set_option Elab.async false
set_option linter.all false
set_option maxRecDepth 100000
set_option maxHeartbeats 600000
/-! the package's compacted, is_compact -/
namespace NV
open PySem PySem.Spec PyProof.Rows L2
open C8 (pss_cut pe_gc)
abbrev sCompacted : Stmt := topS 53
theorem scCompacted : FnScope ["log", "budget"] ["log", "budget"] (defScope sCompacted) := ⟨rfl, rfl, rfl, by decide +kernel, rfl, by decide +kernel, by decide +kernel⟩
def spCompact : Sp := fun vs H Q _ => ∃ (v : V) (es : List Ent) (ex : List Addr) (B : Int), vs = [v, .int B] ∧ Rp ex H (logD es) v ∧ LogOk es ∧ es.length ≤ 60 ∧ 0 ≤ B ∧ B ≤ 999 ∧ Live ex H ∧ ∀ p H', Kp [] H H' → Rp ex H' (logD (keptB B es)) (.ref p) → Q (.ref p) H'
section
variable {P : Program} {w : World} {K : PySem.W.Frag} {mg : Str → Option Value} {base : Heap}
theorem ok_compacted (DCompacted : FnK K mg "compacted" sCompacted ["log", "budget"] 1 ["budget"]) (DCheckLog : Fn K mg "check_log" sCheckLog ["log"]) (DCheckBudget : Fn K mg "check_budget" sCheckBudget ["budget"]) (DKeptEntries : Fn K mg "kept_entries" sKeptEntries ["log", "budget"])
    (GCheckLog : FnOk P w K mg base CX0 7 DCheckLog.f DCheckLog.fd ["log"] spCheck) (GCheckBudget : FnOk P w K mg base CX0 2 DCheckBudget.f DCheckBudget.fd ["budget"] spBudget) (GKeptEntries : FnOk P w K mg base CX0 5 DKeptEntries.f DKeptEntries.fd ["log", "budget"] spKept) :
    FnOk P w K mg base CX0 8 DCompacted.f DCompacted.fd ["log", "budget"] spCompact := by
  refine DCompacted.F.ok scCompacted (fun vs H Q E h => ?_) (fun cdv A outer s H vs Q E hr h => ?_)
  · obtain ⟨v, es, ex, B, rfl, _⟩ := h
    rfl
  obtain ⟨v, es, ex, B, rfl, rv, ok, h60, h0, h1, lv, q⟩ := h
  refine ⟨_, pss_cons (ps_expr (pe_fn DCheckLog GCheckLog hr (pa_cons (pv 0) pa_nil)))
      (pss_cons (ps_expr (pe_fn DCheckBudget GCheckBudget hr (pa_cons (pv 1) pa_nil)))
      (pss_one (ps_ret (pe_fn DKeptEntries GKeptEntries hr (pa_cons (pv 0) (pa_cons (pv 1) pa_nil)))))), ?_⟩
  refine ⟨_, rfl, v, es, ex, rfl, rv, ok, h60, fun H1 k1 => ?_⟩
  refine ⟨_, rfl, B, rfl, h0, h1, ?_⟩
  exact ⟨_, rfl, _, rfl, v, es, ex, B, rfl, Rp.keep (k1.mono (by simp)) _ _ rv, ok, h60, lv.kp0 k1, fun p H2 k2 r2 => q p H2 (k1.trans k2) r2⟩
end
end NV
/-! T10 -/
set_option Elab.async false
set_option linter.all false
set_option maxRecDepth 100000
set_option maxHeartbeats 600000
/-! prices by name; goals in lists -/
namespace NV
open PySem PySem.Spec PyProof.Rows L2
/-- names and prices of a log's writes -/
def priceKV (l : List Ent) : List (L2.Key × V) := (l.filter Ent.isW).map fun e => ((Sum.inr e.id : L2.Key), prV e.pr)
theorem price_get {l : List Ent} {z : Str} (h : ∀ e ∈ l, e.id = z → e.isW = true ∧ e.pr ≠ none) : (valV (priceKV l) (Sum.inr z : L2.Key)).getD (.int 0) = .int (costIn l z) := by
  induction l with
  | nil => rfl
  | cons e l ih =>
    have ih := ih fun u hu => h u (List.mem_cons_of_mem _ hu)
    by_cases hz : e.id = z
    · obtain ⟨hw, hp⟩ := h e List.mem_cons_self hz
      have h1 : priceKV (e :: l) = ((Sum.inr e.id : L2.Key), prV e.pr) :: priceKV l := by
        unfold priceKV
        rw [List.filter_cons_of_pos hw]
        rfl
      have h2 : costIn (e :: l) z = e.pr.getD 0 := by
        unfold costIn
        rw [List.find?_cons_of_pos (by simp [hz])]
      rw [h1, valV_pos (by rw [hz]), h2]
      cases hpr : e.pr with
      | none => exact absurd hpr hp
      | some i => rfl
    · have h2 : costIn (e :: l) z = costIn l z := by
        unfold costIn
        rw [List.find?_cons_of_neg (by simp [hz])]
      rw [h2, ← ih]
      cases hw : e.isW with
      | false =>
        have h1 : priceKV (e :: l) = priceKV l := by
          unfold priceKV
          rw [List.filter_cons_of_neg (by rw [hw]; exact Bool.false_ne_true)]
        rw [h1]
      | true =>
        have h1 : priceKV (e :: l) = ((Sum.inr e.id : L2.Key), prV e.pr) :: priceKV l := by
          unfold priceKV
          rw [List.filter_cons_of_pos hw]
          rfl
        rw [h1, valV_neg (fun y => hz (Sum.inr.inj y))]
theorem price_nodup {l : List Ent} (nd : (l.map Ent.id).Nodup) : ((priceKV l).map (·.1)).Nodup := by
  unfold priceKV
  rw [List.map_map]
  have h1 : ((l.filter Ent.isW).map Ent.id).Nodup := nd.sublist (List.filter_sublist.map _)
  have h2 : ((l.filter Ent.isW).map ((fun x : L2.Key × V => x.1) ∘ fun e => ((Sum.inr e.id : L2.Key), prV e.pr))) = ((l.filter Ent.isW).map Ent.id).map Sum.inr := by
    rw [List.map_map]
    rfl
  rw [h2]
  exact nodup_mapi (fun a b h => Sum.inr.inj h) h1
theorem sumIn_eq (l : List Ent) : ∀ gone : List Str, (gone.map (costIn l)).sum = sumIn l gone
  | [] => rfl
  | z :: zs => by
    rw [List.map_cons, List.sum_cons, sumIn_eq l zs]
    rfl
theorem prV_rp2 (ex : List Addr) (H : Hp) (o : Option Int) : ∀ {u : V}, Rp ex H (prD o) u → u = prV o := fun {u} h => by cases o <;> exact h
end NV
/-! R2 -/
set_option Elab.async false
set_option linter.all false
set_option maxRecDepth 100000
set_option maxHeartbeats 1000000
/-! the law: whole answers of kept entries -/
namespace NV
open PySem PySem.Spec PyProof.Rows L2
open C8 (pss_cut pe_gc)
abbrev sLaw : Stmt := topS 69
theorem scLaw : FnScope ["script", "draw", "turn", "spots", "book", "limit", "short", "prices", "names", "gone", "entry", "goal", "name"] ["script"] (defScope sLaw) := ⟨rfl, rfl, rfl, by decide +kernel, rfl, by decide +kernel, by decide +kernel⟩
def spLaw (K : PySem.W.Frag) : Sp := fun vs H Q _ => ∃ (a : Addr) (ns : List Int), vs = [.ref a] ∧ SqL K H a (ns.map V.int) ∧ ns.length ≤ 63 ∧ ∀ H', Q (.bl true) H'
def unsN (e : Ent) : Bool := e.isW && e.pr.isSome
section
variable {P : Program} {w : World} {K : PySem.W.Frag} {mg : Str → Option Value} {base : Heap}
theorem ok_law (DLaw : Fn K mg "law" sLaw ["script"]) (DLawBegin : Fn K mg "_law_begin" sLawBegin ["script"]) (DLawTake : Fn K mg "_law_take" sLawTake ["draw", "size"]) (DLawPick : Fn K mg "_law_pick" sLawPick ["draw", "some"]) (DLawCells : Fn K mg "_law_cells" sLawCells ["draw", "many"]) (DLawLog : Fn K mg "_law_log" sLawLog ["draw", "many", "cells"])
    (DLawSets : Fn K mg "_law_sets" sLawSets ["draw", "names"])
    (DLawSnapshots : Fn K mg "_law_snapshots" sLawSnapshots ["entries", "gone"]) (DLawMet : Fn K mg "_law_met" sLawMet ["entries", "goal", "gone"]) (DLawTriples : Fn K mg "_law_triples" sLawTriples ["entries", "goal", "gone"]) (DLawTargets : Fn K mg "_law_targets" sLawTargets ["entries", "cells"])
    (b_enumerate : mg "enumerate" = none) (b_dict : mg "dict" = none) (b_len : mg "len" = none) (b_sorted : mg "sorted" = none) (b_sum : mg "sum" = none) (b_range : mg "range" = none) (b_min : mg "min" = none)
    (DDependencies : FnF K mg "dependencies" sDependencies) (BDependencies2 : KBn K DDependencies.fd ["log", "target", "retracted"] 2 ["retracted"] (· ++ ·) (· ++ ·)) (DCompacted : FnF K mg "compacted" sCompacted) (BCompacted1 : KBn K DCompacted.fd ["log", "budget"] 1 ["budget"] (· ++ ·) (· ++ ·))
    (GLawBegin : FnOk P w K mg base CX0 1 DLawBegin.f DLawBegin.fd ["script"] (spBegin K)) (GLawTake : FnOk P w K mg base CX0 2 DLawTake.f DLawTake.fd ["draw", "size"] spTake) (GLawPick : FnOk P w K mg base CX0 3 DLawPick.f DLawPick.fd ["draw", "some"] (spPick K)) (GLawCells : FnOk P w K mg base CX0 3 DLawCells.f DLawCells.fd ["draw", "many"] spCells)
    (GLawLog : FnOk P w K mg base CX0 5 DLawLog.f DLawLog.fd ["draw", "many", "cells"] (spLogF K)) (GLawSets : FnOk P w K mg base CX0 3 DLawSets.f DLawSets.fd ["draw", "names"] spSets)
    (GDependencies : FnOk P w K mg base CX0 8 DDependencies.f DDependencies.fd ["log", "target", "retracted"] (spDeps K)) (GCompacted : FnOk P w K mg base CX0 8 DCompacted.f DCompacted.fd ["log", "budget"] spCompact) :
    FnOk P w K mg base CX0 9 DLaw.f DLaw.fd ["script"] (spLaw K) := by
  refine DLaw.F.ok scLaw (fun vs H Q E h => ?_) (fun cdv A outer s H vs Q E hr h => ?_)
  · obtain ⟨a, ns, rfl, _⟩ := h
    rfl
  obtain ⟨a, ns, rfl, hS, h63, q⟩ := h
  have GLawTriples := (ok_tri (P := P) (w := w) (base := base) DLawTriples DLawMet DLawSnapshots b_enumerate b_dict b_len b_sorted).mono (show 3 ≤ 8 by decide)
  have GLawTargets := (ok_tgt (P := P) (w := w) (base := base) DLawTargets).mono (show 1 ≤ 8 by decide)
  have hu := hu_of hr
  refine ⟨_, pss_cons (ps_set (i := 1) scLaw.nd rfl (.inl rfl) (pe_fn DLawBegin GLawBegin hr (pa_cons (pv 0) pa_nil)))
      (pss_cons (ps_for PassesOwn.never rfl (pi_range1 rfl b_range (pa_cons (pe_op op_add pe_int (pe_callB (call_min2 rfl) (by rfl) b_min (by decide +kernel) (pa_cons (pe_callB (lenE K) (by rfl) b_len (by decide +kernel) (pa_cons (pv 0) pa_nil)) (pa_cons pe_int pa_nil)))) pa_nil)) (pg_name (i := 2) scLaw.nd rfl (.inl rfl))
      (pss_cons (ps_set (i := 3) scLaw.nd rfl (.inl rfl) (pe_fn DLawCells GLawCells hr (pa_cons (pv 1) (pa_cons (pe_op op_add pe_int (pe_fn DLawTake GLawTake hr (pa_cons (pv 1) (pa_cons pe_int pa_nil)))) pa_nil))))
      (pss_cons (ps_set (i := 4) scLaw.nd rfl (.inl rfl) (pe_fn DLawLog GLawLog hr (pa_cons (pv 1) (pa_cons (pe_op op_add pe_int (pe_fn DLawTake GLawTake hr (pa_cons (pv 1) (pa_cons pe_int pa_nil)))) (pa_cons (pv 3) pa_nil)))))
      (pss_cons (ps_set (i := 5) scLaw.nd rfl (.inl rfl) (pe_fn DLawPick GLawPick hr (pa_cons (pv 1) (pa_cons (pe_lst (pa_cons pe_int (pa_cons pe_int (pa_cons pe_int (pa_cons pe_int (pa_cons pe_int (pa_cons (pe_fn DLawTake GLawTake hr (pa_cons (pv 1) (pa_cons pe_int pa_nil))) pa_nil))))))) pa_nil))))
      (pss_cons (ps_set (i := 6) scLaw.nd rfl (.inl rfl) (pe_q DCompacted BCompacted1 GCompacted hr (pa_cons (pv 4) pa_nil) (pk_cons (pv 5) pk_nil)))
      (pss_cons (ps_set (i := 7) scLaw.nd rfl (.inr rfl) (pe_callTy (call_dictP (by rfl)) (by rfl) b_dict (by decide +kernel) (pa_cons (pe_lc (own := [("entry", 10)]) (g := gName 10) (by rfl) scLaw.nd (piTupE K (pv 6)) (blkOk_by (N := ["script", "draw", "turn", "spots", "book", "limit", "short", "prices", "names", "gone", "entry", "goal", "name"]) (sc := defScope sLaw) (by decide +kernel)) (fun _ _ _ _ _ => (pg_name (i := 10) scLaw.nd rfl (.inl rfl))) (fun _ _ _ _ _ => (pts_one (pt_cmpR op_eq (pe_ix (ixtE K) (pv 10) pe_int (fun _ _ => rfl)) pe_str (nomark _)))) (fun _ _ _ _ _ => (pe_tup (pa_cons (pe_ix (ixtE K) (pv 10) pe_int (fun _ _ => rfl)) (pa_cons (pe_ix (ixtE K) (pv 10) pe_int (fun _ _ => rfl)) pa_nil))))) pa_nil)))
      (pss_cons (ps_setLc (i := 8) (own := [("entry", 10)]) (g := gName 10) (by rfl) scLaw.nd rfl rfl (sw_true rfl rfl rfl (by decide +kernel)) (piTupE K (pv 4)) (blkOk_by (N := ["script", "draw", "turn", "spots", "book", "limit", "short", "prices", "names", "gone", "entry", "goal", "name"]) (sc := defScope sLaw) (by decide +kernel)) (fun _ _ _ _ _ => (pg_name (i := 10) scLaw.nd rfl (.inl rfl))) (fun _ _ _ _ _ => (pts_one (PW.pt (pw_and (pt_cmpR op_eq (pe_ix (ixtE K) (pv 10) pe_int (fun _ _ => rfl)) pe_str (nomark _)) (pw_and1 (pt_cmpR op_notN (pe_ix (ixtE K) (pv 10) pe_int (fun _ _ => rfl)) pe_non (nomark _))))))) (fun _ _ _ _ _ => (pe_ix (ixtE K) (pv 10) pe_int (fun _ _ => rfl))))
      (pss_one (ps_for PassesOwn.never rfl (piListE K (pe_fn DLawSets GLawSets hr (pa_cons (pv 1) (pa_cons (pv 8) pa_nil)))) (pg_name (i := 9) scLaw.nd rfl (.inl rfl))
      (pss_one (ps_if (pt_cmpR op_le (pe_callB (cr_sum rfl) (by rfl) b_sum (by decide +kernel) (pa_cons (pe_lc (own := [("name", 12)]) (g := gName 12) (tt := tYes) (by rfl) scLaw.nd (piListE K (pv 9)) (blkOk_by (N := ["script", "draw", "turn", "spots", "book", "limit", "short", "prices", "names", "gone", "entry", "goal", "name"]) (sc := defScope sLaw) (by decide +kernel)) (fun _ _ _ _ _ => (pg_name (i := 12) scLaw.nd rfl (.inl rfl))) (fun _ _ _ _ _ => pts_nil) (fun _ _ _ _ _ => (pe_dget2 hu (pv 7) (pv 12) pe_int ⟨rfl, rfl, rfl, rfl⟩))) pa_nil)) (pv 5) (nomark _))
      (pss_one (ps_for PassesOwn.never rfl (piListE K (pe_fn DLawTargets GLawTargets hr (pa_cons (pv 6) (pa_cons (pv 3) pa_nil)))) (pg_name (i := 11) scLaw.nd rfl (.inl rfl))
      (pss_one (ps_if (pt_cmpR (neDE K hr.units) (pe_q DDependencies BDependencies2 GDependencies hr (pa_cons (pv 6) (pa_cons (pv 11) pa_nil)) (pk_cons (pv 9) pk_nil)) (pe_fn DLawTriples GLawTriples hr (pa_cons (pv 4) (pa_cons (pv 11) (pa_cons (pv 9) pa_nil)))) (nomark _))
      (pss_one (ps_ret pe_bl))
      pss_nil))))
      pss_nil)))))))))))
      (pss_one (ps_ret pe_bl))), ?_⟩
  refine ⟨_, rfl, a, ns, rfl, hS, h63, fun D H0 k0 nd nl nit dr => ?_⟩
  refine ⟨_, rfl, a, _, rfl, .inl (Kp.seqL k0 (by simp) hS), ?_⟩
  rw [List.length_map]
  refine ⟨(ns.length : Int), 4, rfl, 1, _, rfl, rfl, _, rfl, by split <;> omega, by split <;> omega, ?_⟩
  have turns : ((1 : Int) + (if (4 : Int) < (ns.length : Int) then 4 else (ns.length : Int))).toNat ≤ 5 := by split <;> omega
  generalize ((1 : Int) + (if (4 : Int) < (ns.length : Int) then 4 else (ns.length : Int))).toNat = tn at turns ⊢
  have line : (100000 : Nat) < sizeLine := by decide
  have upk : ∀ {Ha Hb : Hp}, Kp [] Ha Hb → Kp D.ex Ha Hb := fun k => k.mono (by simp)
  have frD : ∀ {H' : Hp} {n : Nat}, DrAt D n H' → ∀ p, H' p = none → p ∉ D.ex := fun d p hp => Dr.sub (d.fresh hp)
  refine for_range (fun i σ H' => ∃ v2 v3 v4 v5 v6 v7 v8 v9 v11 : Option V, σ = [some (.ref a), some (.ref D.d), v2, v3, v4, v5, v6, v7, v8, v9, none, v11, none] ∧ DrAt D (900000000 - i * 1000) H') ⟨none, none, none, none, none, none, none, none, none, rfl, dr.less (by omega)⟩ ?_ ?_
  · rintro i σ H1 hi ⟨v2, v3, v4, v5, v6, v7, v8, v9, v11, rfl, d1⟩
    have hi8 : i < 5 := by omega
    refine ⟨_, rfl, _, rfl, D, 899999999 - i * 1000, 4, rfl, by decide, by decide, d1.less (by omega), fun ci Hb c0 c1 kb db => ?_⟩
    obtain ⟨cn, rfl⟩ := Int.eq_ofNat_of_zero_le c0
    refine ⟨1, (cn : Int), rfl, rfl, D, 899999990 - i * 1000, 1 + cn, by rw [Int.natCast_add]; rfl, by omega, db.less (by omega), fun ys c Hc hya hys hyl nc ec kc dc => ?_⟩
    refine ⟨_, rfl, _, rfl, D, 899999980 - i * 1000, 9, rfl, by decide, by decide, dc.less (by omega), fun mi Hd m0 m1 kd dd => ?_⟩
    obtain ⟨mn, rfl⟩ := Int.eq_ofNat_of_zero_le m0
    have hcD : c ∉ D.all := db.fresh nc
    have hcell : ∀ z ∈ ys, cellB z = true := fun z hz => cellPool_ok z (hys z hz)
    refine ⟨2, (mn : Int), rfl, rfl, _, rfl, D, 899999700 - i * 1000, 2 + mn, c, ys, D.ex, (by rw [Int.natCast_add]; rfl), by omega, kd _ _ (Dr.sub hcD) ec, hcD, hya, hcell, by omega, by omega, fun b hb => hb, dd.live, dd.less (by omega), fun es p He hok far hlen hrp ke de => ?_⟩
    have h12 : es.length ≤ 12 := by omega
    have h60 : es.length ≤ 60 := by omega
    -- the limit
    refine ⟨_, rfl, _, rfl, D, 899999699 - i * 1000, 13, rfl, by decide, by decide, de.less (by omega), fun ti Hf t0 t1 kf df => ?_⟩
    refine ⟨by show 6 ≤ sizeLine; omega, fun l nl => ?_⟩
    have kl : Kp [] Hf (upd Hf l (.lst [V.int 0, V.int 1, V.int 2, V.int 3, V.int 5, V.int ti])) := Kp.laid nl
    refine ⟨D, 899999698 - i * 1000, l, _, rfl, SqL.of upd_same, by show 0 < 6; decide, by show 6 < 1073741824; decide, df.live.fresh nl, (df.keep kl).less (by omega), fun m y Hg hm kg dg => ?_⟩
    have hpick : ∃ B : Int, y = .int B ∧ 0 ≤ B ∧ B ≤ 120 := by
      match m, hm with
      | 0, hm => exact ⟨0, (Option.some.inj hm).symm, by omega, by omega⟩
      | 1, hm => exact ⟨1, (Option.some.inj hm).symm, by omega, by omega⟩
      | 2, hm => exact ⟨2, (Option.some.inj hm).symm, by omega, by omega⟩
      | 3, hm => exact ⟨3, (Option.some.inj hm).symm, by omega, by omega⟩
      | 4, hm => exact ⟨5, (Option.some.inj hm).symm, by omega, by omega⟩
      | 5, hm => exact ⟨ti, (Option.some.inj hm).symm, by omega, by omega⟩
      | m + 6, hm => cases hm
    obtain ⟨B, rfl, B0, B1⟩ := hpick
    have keg : Kp D.ex He Hg := kf.trans ((upk kl).trans kg)
    have hcg := keg _ _ (Dr.sub hcD) (ke _ _ (Dr.sub hcD) (kd _ _ (Dr.sub hcD) ec))
    have rb := Rp.keep keg _ _ hrp
    -- the kept entries
    refine ⟨_, rfl, _, rfl, rfl, rfl, .ref p, es, D.ex, B, rfl, rb, hok, h60, B0, by omega, dg.live, fun sp Hh kh rs => ?_⟩
    have dh := dg.keep kh
    have keh : Kp D.ex He Hh := keg.trans (upk kh)
    have oks : LogOk (keptB B es) := hok.sub (keptB_sub B es)
    have hsl : (keptB B es).length ≤ es.length := (keptB_sub B es).length_le
    obtain ⟨sp', us, e1, nsp, hsp, hus⟩ := id rs
    cases e1
    have hul : (keptB B es).length = us.length := by
      have := hus.length
      rwa [List.length_map] at this
    -- the prices
    refine ⟨_, rfl, sp, rfl, ⟨_, .inl (.inl hsp)⟩, fun C nC => ?_⟩
    have dC : ∀ {H' : Hp}, Kp [C] (upd Hh C (.lst [])) H' → Kp [] Hh H' := fun kk => Kp.drop (((Kp.laid (ex := []) nC).mono (by simp)).trans kk) nC
    have nCD := frD dh C nC
    refine lc_tup (K := K) (xs := us) (fun j H' => Kp [C] (upd Hh C (.lst [])) H' ∧ ∃ ps : List Addr, H' C = some (.lst (ps.map V.ref)) ∧ ps.length ≤ j ∧ Paired (fun p (kv : L2.Key × V) => H' p = some (.tup [kV kv.1, kv.2])) ps (priceKV ((keptB B es).take j))) ⟨Kp.refl, [], upd_same, Nat.le_refl _, .nil⟩ (fun j H' _ ⟨kk, _⟩ => .inl (.inl (dC kk _ _ (by simp) hsp))) (fun j y H' hy ⟨kk, ps, hC, pl, hps⟩ => ?_) fun H3 ⟨kk, ps, hC, pl, hps⟩ => ?_
    · have hj := (List.getElem?_eq_some_iff.mp hy).1
      obtain ⟨e, he⟩ : ∃ e, (keptB B es)[j]? = some e := ⟨_, List.getElem?_eq_getElem (by omega)⟩
      obtain ⟨x, hxj, rx⟩ := RpAll.at (RpAll.keep (upk (dC kk)) _ _ hus) (show ((keptB B es).map Ent.data)[j]? = some e.data by rw [List.getElem?_map, he]; rfl)
      rw [hy] at hxj
      obtain rfl := Option.some.inj hxj
      have htk : (keptB B es).take (j + 1) = (keptB B es).take j ++ [e] := by rw [List.take_add_one, he]; rfl
      obtain ⟨dk, edk, hk⟩ := ent_kind e
      refine ⟨rfl, ⟨_, rfl, c_of (ent_ix rx edk hk rfl fun u ru => ?_)⟩⟩
      obtain rfl : u = .str (if e.isW then "write" else "query") := ru
      refine c_of ⟨by cases e.isW <;> rfl, _, rfl, ?_⟩
      cases hw : e.isW with
      | false =>
        refine if_f ⟨kk, ps, hC, by omega, ?_⟩
        unfold priceKV
        rw [htk, List.filter_append, List.filter_cons_of_neg (by rw [hw]; exact Bool.false_ne_true), List.filter_nil, List.append_nil]
        exact hps
      | true =>
        obtain ⟨dw, edw, _, h4⟩ := ent_writes hw
        obtain ⟨ds, ed, h1, _⟩ := ent_reads e
        refine if_t ⟨_, rfl, c_of (ent_ix rx ed h1 rfl fun u ru => ?_)⟩
        obtain rfl : u = .str e.id := ru
        refine ⟨_, rfl, c_of (ent_ix rx edw h4 rfl fun u ru => ?_)⟩
        obtain rfl : u = prV e.pr := prV_rp2 _ _ _ ru
        refine ⟨(by show 2 ≤ sizeLine; decide), fun T nT => ?_⟩
        have kT : Kp [] H' (upd H' T (.tup [.str e.id, prV e.pr])) := Kp.laid nT
        have hT : (upd H' T (.tup [.str e.id, prV e.pr])) T = some (.tup [.str e.id, prV e.pr]) := upd_same
        have nTC : T ≠ C := fun y => by rw [y, hC] at nT; cases nT
        have hC' := kT _ _ (by simp) hC
        have hps' := hps.mono fun p kv h => kT _ _ (by simp) h
        generalize upd H' T (.tup [.str e.id, prV e.pr]) = H'' at kT hT hC' hps' ⊢
        refine ⟨_, hC', by rw [List.length_map]; omega, (kk.trans (kT.mono (by simp))).trans (Kp.put (by simp)), ps ++ [T], ?_, by rw [List.length_append, List.length_singleton]; omega, ?_⟩
        · rw [upd_same, List.map_append]
          rfl
        · have hcell : ∀ {p : Addr} {vs : List V}, H'' p = some (.tup vs) → (upd H'' C (.lst (ps.map V.ref ++ [.ref T]))) p = some (.tup vs) := fun {p vs} h => by
            have : p ≠ C := fun y => by rw [y, hC'] at h; cases h
            rw [upd_ne this]
            exact h
          have h5 : priceKV ((keptB B es).take (j + 1)) = priceKV ((keptB B es).take j) ++ [((Sum.inr e.id : L2.Key), prV e.pr)] := by
            unfold priceKV
            rw [htk, List.filter_append, List.filter_cons_of_pos hw, List.filter_nil, List.map_append]
            rfl
          rw [h5]
          exact (hps'.mono fun p kv h => hcell h).snoc (hcell hT)
    rw [← hul, List.take_length] at hps
    refine ⟨C, ps, priceKV (keptB B es), rfl, .inl (.inl hC), hps.mono fun p kv h => .inl (.inl h), fun PD nPD => ?_⟩
    rw [mergeK_nodup (priceKV (keptB B es)) [] (by simpa using price_nodup oks.nd), List.nil_append]
    have kh3 := dC kk
    clear kk
    have d3 := dh.keep kh3
    have kPD : Kp [] H3 (upd H3 PD (.dK (priceKV (keptB B es)))) := Kp.laid nPD
    have hPD : (upd H3 PD (.dK (priceKV (keptB B es)))) PD = some (.dK (priceKV (keptB B es))) := upd_same
    have d4 := d3.keep kPD
    have nPDD := d3.fresh nPD
    have keh4 : Kp D.ex He (upd H3 PD (.dK (priceKV (keptB B es)))) := keh.trans (upk (kh3.trans kPD))
    have rs4 := Rp.keep (upk (kh3.trans kPD)) _ _ rs
    have hc4 := (upk (kh.trans (kh3.trans kPD))) _ _ (Dr.sub hcD) hcg
    generalize upd H3 PD (.dK (priceKV (keptB B es))) = H4 at kPD hPD d4 keh4 rs4 hc4 ⊢
    -- the names
    obtain ⟨p', xs, e1, na, ha, hx⟩ := Rp.keep keh4 _ _ hrp
    cases e1
    have hl : es.length = xs.length := by
      have := hx.length
      rwa [List.length_map] at this
    refine ⟨_, rfl, p, rfl, ⟨_, .inl (.inl ha)⟩, fun NP nNP => ?_⟩
    have dN : ∀ {H' : Hp}, Kp [NP] (upd H4 NP (.lst [])) H' → Kp [] H4 H' := fun kk => Kp.drop (((Kp.laid (ex := []) nNP).mono (by simp)).trans kk) nNP
    refine lc_tup (K := K) (xs := xs) (fun j H' => Kp [NP] (upd H4 NP (.lst [])) H' ∧ H' NP = some (.lst ((((es.take j).filter unsN).map Ent.id).map V.str))) ⟨Kp.refl, upd_same⟩ (fun j H' _ ⟨kk, _⟩ => .inl (.inl ((dN kk) _ _ (by simp) ha))) (fun j y H' hy ⟨kk, hN⟩ => ?_) fun H5 ⟨kk, hN⟩ => ?_
    · have hj := (List.getElem?_eq_some_iff.mp hy).1
      obtain ⟨e, he⟩ : ∃ e, es[j]? = some e := ⟨_, List.getElem?_eq_getElem (by omega)⟩
      obtain ⟨x, hxj, rx⟩ := RpAll.at (RpAll.keep (upk (dN kk)) _ _ hx) (show (es.map Ent.data)[j]? = some e.data by rw [List.getElem?_map, he]; rfl)
      rw [hy] at hxj
      obtain rfl := Option.some.inj hxj
      obtain ⟨dk, edk, hk⟩ := ent_kind e
      have htk : es.take (j + 1) = es.take j ++ [e] := by rw [List.take_add_one, he]; rfl
      have no : unsN e = false → Kp [NP] (upd H4 NP (.lst [])) H' ∧ H' NP = some (.lst ((((es.take (j + 1)).filter unsN).map Ent.id).map V.str)) := fun h => by
        rw [htk, List.filter_append, List.filter_cons_of_neg (by rw [h]; simp), List.filter_nil, List.append_nil]
        exact ⟨kk, hN⟩
      refine ⟨rfl, ⟨_, rfl, c_of (ent_ix rx edk hk rfl fun u ru => ?_)⟩⟩
      obtain rfl : u = .str (if e.isW then "write" else "query") := ru
      refine c_of ⟨by cases e.isW <;> rfl, _, rfl, ?_⟩
      cases hw : e.isW with
      | false =>
        refine if_f (if_f ?_)
        exact no (by unfold unsN; rw [hw]; rfl)
      | true =>
        refine if_t ?_
        obtain ⟨dw, edw, _, h4⟩ := ent_writes hw
        refine ⟨_, rfl, c_of (ent_ix rx edw h4 rfl fun u ru => c_of ⟨rfl, _, rfl, ?_⟩)⟩
        cases hp : e.pr with
        | none =>
          rw [hp] at ru
          obtain rfl : u = .non := ru
          exact if_f (no (by unfold unsN; rw [hp, Bool.and_comm]; rfl))
        | some p =>
          rw [hp] at ru
          obtain rfl : u = .int p := ru
          refine if_t ?_
          obtain ⟨ds, ed, h1, _⟩ := ent_reads e
          refine ⟨_, rfl, c_of (ent_ix rx ed h1 rfl fun u ru => ?_)⟩
          obtain rfl : u = .str e.id := ru
          have yes : unsN e = true := by unfold unsN; rw [hw, hp]; rfl
          refine ⟨_, hN, ?_, kk.trans (Kp.put (by simp)), ?_⟩
          · have := List.length_filter_le unsN (es.take j)
            rw [List.length_take] at this
            rw [List.length_map, List.length_map]
            omega
          · rw [upd_same, htk, List.filter_append, List.filter_cons_of_pos (by rw [yes]), List.filter_nil, List.map_append, List.map_append]
            rfl
    rw [← hl, List.take_length] at hN
    have k45 := dN kk
    clear kk
    have nsl : ((es.filter unsN).map Ent.id).length ≤ es.length := by
      rw [List.length_map]
      exact List.length_filter_le _ _
    have nsn : ((es.filter unsN).map Ent.id).Nodup := hok.nd.sublist (List.filter_sublist.map _)
    have nsm : ∀ z ∈ (es.filter unsN).map Ent.id, ∃ e ∈ es, e.id = z ∧ unsN e = true := fun z hz => by
      obtain ⟨e, he, rfl⟩ := List.mem_map.mp hz
      obtain ⟨h1, h2⟩ := List.mem_filter.mp he
      exact ⟨e, h1, rfl, h2⟩
    generalize (es.filter unsN).map Ent.id = names at hN nsl nsn nsm
    have d5 := d4.keep k45
    -- some sets
    refine ⟨_, rfl, _, rfl, D, 899999600 - i * 1000, NP, names, rfl, hN, d4.fresh nNP, by omega, d5.less (by omega), fun gs GP H6 hgs nGP rG k6 d6 => ?_⟩
    obtain ⟨GP', gv, e1, nGPD, hGP, hgv⟩ := rG
    cases e1
    have k46 : Kp D.ex H4 H6 := (upk k45).trans k6
    have hPD6 := k46 _ _ (Dr.sub nPDD) hPD
    have rs6 := Rp.keep k46 _ _ rs4
    have re6 : Rp D.ex H6 (logD es) (.ref p) := Rp.keep (keh4.trans k46) _ _ hrp
    have hc6 := k46 _ _ (Dr.sub hcD) hc4
    refine ⟨GP, rfl, ⟨_, .inl (.inl hGP)⟩, for_list (K := K) (a := GP) (xs := gv) (fun j σ H' => ∃ v2 v9 v11 : Option V, σ = [some (.ref a), some (.ref D.d), v2, some (.ref c), some (.ref p), some (.int B), some (.ref sp), some (.ref PD), some (.ref NP), v9, none, v11, none] ∧ Kp [] H6 H')
      ⟨_, _, _, rfl, Kp.refl⟩ (fun j σ H' _ ⟨_, _, _, _, k⟩ => .inl (.inl (k _ _ (by simp) hGP))) ?_ ?_⟩
    · rintro j x σ H7 hxj ⟨v2, v9, v11, rfl, k7⟩
      obtain ⟨d, hd, rx⟩ := RpAll.back (RpAll.keep (upk k7) _ _ hgv) hxj
      obtain ⟨gone, hg1, rfl⟩ : ∃ s, gs[j]? = some s ∧ PyData.list (s.map PyData.str) = d := by
        unfold setsD at hd
        rw [List.getElem?_map] at hd
        cases hcj : gs[j]? with
        | none => rw [hcj] at hd; cases hd
        | some r => rw [hcj] at hd; exact ⟨r, rfl, Option.some.inj hd⟩
      obtain ⟨g, gvs, rfl, ngD, hg, hgs2⟩ := rx
      obtain rfl := strs_of hgs2
      have gsub := hgs gone (List.mem_of_getElem? hg1)
      have gnd : gone.Nodup := nsn.sublist gsub
      have gok : GoneOk es gone := fun z hz => by
        obtain ⟨e, he, rfl, hu⟩ := nsm z (gsub.subset hz)
        refine ⟨(hok.ok e he).idOk, fun u hu2 hid => ?_⟩
        obtain rfl := id_inj hok.nd hu2 he hid
        unfold unsN at hu
        rw [Bool.and_eq_true] at hu
        exact ⟨hu.1, fun y => by rw [y] at hu; cases hu.2⟩
      have goks : GoneOk (keptB B es) gone := fun z hz => ⟨(gok z hz).1, fun e he => (gok z hz).2 e ((keptB_sub B es).subset he)⟩
      have gl : gone.length ≤ 12 := by
        have := gsub.length_le
        omega
      -- their price
      refine ⟨_, rfl, g, rfl, ⟨_, .inl (.inl hg)⟩, fun SP nSP => ?_⟩
      have dS : ∀ {H' : Hp}, Kp [SP] (upd H7 SP (.lst [])) H' → Kp [] H7 H' := fun kk => Kp.drop (((Kp.laid (ex := []) nSP).mono (by simp)).trans kk) nSP
      refine lc_list (K := K) (xs := gone.map V.str) (fun m H' => Kp [SP] (upd H7 SP (.lst [])) H' ∧ H' SP = some (.lst (((gone.take m).map (costIn (keptB B es))).map V.int))) ⟨Kp.refl, upd_same⟩ (fun m H' _ ⟨kk, _⟩ => .inl (.inl (dS kk _ _ (by simp) hg))) (fun m y H' hy ⟨kk, hS⟩ => ?_) fun H8 ⟨kk, hS⟩ => ?_
      · obtain ⟨z, hz, rfl⟩ := txt_at hy
        have hm := (List.getElem?_eq_some_iff.mp hz).1
        have hPD' := (k7.trans (dS kk)) _ _ (by simp) hPD6
        refine ⟨rfl, yes_on ⟨_, rfl, PD, rfl, .inl ⟨_, .inl hPD'⟩, _, rfl, _, DGet.k (k := Sum.inr z) hPD', ?_⟩⟩
        rw [price_get fun e he hid => (goks z (List.mem_of_getElem? hz)).2 e he hid]
        refine ⟨_, hS, ?_, kk.trans (Kp.put (by simp)), ?_⟩
        · rw [List.length_map, List.length_map, List.length_take]
          omega
        · rw [upd_same, List.take_add_one, hz, List.map_append, List.map_append]
          rfl
      rw [List.length_map, List.take_length] at hS
      have k78 := dS kk
      clear kk
      refine ⟨SP, _, rfl, SqL.of hS, ?_⟩
      rw [sumIn_eq, sum_price oks.nd gnd]
      refine ⟨_, rfl, _, _, rfl, rfl, _, rfl, ?_⟩
      by_cases hle : priceG gone (keptB B es) ≤ B
      · rw [decide_eq_true hle]
        refine if_t ?_
        have k68 := k7.trans k78
        -- the targets of the kept
        refine ⟨_, rfl, _, rfl, .ref sp, c, keptB B es, ys, D.ex, rfl, Rp.keep (upk k68) _ _ rs6, oks.ok, by omega, k68 _ _ (by simp) hc6, by omega, (d6.keep k68).live, fun TP H9 k9 nTP rT => ?_⟩
        obtain ⟨TP', tv, e1, nTPD, hTP, htv⟩ := rT
        cases e1
        refine ⟨TP, rfl, ⟨_, .inl (.inl hTP)⟩, for_list (K := K) (a := TP) (xs := tv) (fun m σ H' => ∃ v2 v11 : Option V, σ = [some (.ref a), some (.ref D.d), v2, some (.ref c), some (.ref p), some (.int B), some (.ref sp), some (.ref PD), some (.ref NP), some (.ref g), none, v11, none] ∧ Kp [] H9 H')
          ⟨_, _, rfl, Kp.refl⟩ (fun m σ H' _ ⟨_, _, _, k⟩ => .inl (.inl (k _ _ (by simp) hTP))) ?_ ?_⟩
        · rintro m x σ HA hxm ⟨v2, v11, rfl, kA⟩
          obtain ⟨z, cc, T, hq, rfl, hT, nTD⟩ := goal_at (RpAll.keep (upk kA) _ _ htv) hxm
          obtain ⟨k', tk'⟩ := target_of oks hcell (List.mem_of_getElem? hq)
          have tk' : TargetOk (keptB B es) z cc k' := tk'
          obtain ⟨k, tk, rfl⟩ := target_kept hok tk'
          have k6A : Kp [] H6 HA := k68.trans (k9.trans kA)
          have dok := dep_ok (gone := gone) (k := k) hok.ok (target_txt hok.ok tk) (cellB_txt tk.cell)
          have hgA := (k78.trans (k9.trans kA)) _ _ (by simp) hg
          refine ⟨_, rfl, _, rfl, _, rfl, rfl, rfl, .ref sp, T, g, keptB B es, gone, true, z, cc, _, D.ex, rfl, Rp.keep (upk k6A) _ _ rs6, oks, by omega, hT, tk', hgA, goks, by omega, (d6.keep k6A).live, fun RP HB kB nRP rR => ?_⟩
          rw [dep_kept hok tk gok hle] at rR
          have k6B := k6A.trans kB
          refine ⟨_, rfl, _, rfl, _, rfl, .ref p, T, g, es, gone, z, cc, k, D.ex, rfl, Rp.keep (upk k6B) _ _ re6, hok.ok, h60, kB _ _ (by simp) hT, tk.pos, kB _ _ (by simp) hgA, by omega, (d6.keep k6B).live, fun DP HC kC nDP rD => ?_⟩
          exact ne_ok dok (Rp.keep (upk kC) _ _ rR) rD ⟨_, rfl, iteF ⟨_, _, rfl, kA.trans (kB.trans kC)⟩⟩
        · rintro σ HA ⟨v2, v11, rfl, kA⟩
          exact ⟨_, _, _, rfl, k68.trans (k9.trans kA)⟩
      · rw [decide_eq_false hle]
        exact if_f ⟨_, _, _, rfl, k7.trans k78⟩
    · rintro σ H7 ⟨v2, v9, v11, rfl, k7⟩
      exact ⟨_, _, _, _, _, _, _, _, _, rfl, (d6.keep k7).less (by omega)⟩
  · rintro σ H1 ⟨v2, v3, v4, v5, v6, v7, v8, v9, v11, rfl, d1⟩
    exact q H1
end
end NV
/-! E13 -/
set_option Elab.async false
set_option linter.all false
set_option maxRecDepth 100000
set_option maxHeartbeats 1000000
namespace NV
open PySem PySem.Spec PyProof.Rows L2
theorem all_mk {l : PySem.W.OpenLaw} {w : World} {K : PySem.W.Frag} {h : Heap} {mg : Str → Option Value} {fa : Addr} (X : K.In h) (G : h.Ns mainGlobals mg) (hmg : mg "law" = some (.ref fa))
    (aIsIntegerWithin : At K "is_integer_within" sIsIntegerWithin)
    (aIsId : At K "is_id" sIsId)
    (aIsCell : At K "is_cell" sIsCell)
    (aIsCells : At K "is_cells" sIsCells)
    (aIsPrice : At K "is_price" sIsPrice)
    (aIsEntryWith : At K "is_entry_with" sIsEntryWith)
    (aIsLogWithin : At K "is_log_within" sIsLogWithin)
    (aIsLog : At K "is_log" sIsLog)
    (aCellsWritten : At K "cells_written" sCellsWritten)
    (aIsWriteAt : At K "is_write_at" sIsWriteAt)
    (aIsReadAt : At K "is_read_at" sIsReadAt)
    (aCheckLog : At K "check_log" sCheckLog)
    (aCheckReads : At K "check_reads" sCheckReads)
    (aPositionIn : At K "position_in" sPositionIn)
    (aCheckRetracted : At K "check_retracted" sCheckRetracted)
    (aCheckMayBeRetracted : At K "check_may_be_retracted" sCheckMayBeRetracted)
    (aCheckTarget : At K "check_target" sCheckTarget)
    (aWithoutRetracted : At K "without_retracted" sWithoutRetracted)
    (aTriplesOf : At K "triples_of" sTriplesOf)
    (aWayOnward : At K "way_onward" sWayOnward)
    (aWayFrom : At K "way_from" sWayFrom)
    (aAddBlocker : At K "add_blocker" sAddBlocker)
    (aAddReader : At K "add_reader" sAddReader)
    (aCheckBudget : At K "check_budget" sCheckBudget)
    (aIsWithin : At K "is_within" sIsWithin)
    (aKeptEntries : At K "kept_entries" sKeptEntries)
    (aLawBegin : At K "_law_begin" sLawBegin)
    (aLawMixed : At K "_law_mixed" sLawMixed)
    (aLawTake : At K "_law_take" sLawTake)
    (aLawPick : At K "_law_pick" sLawPick)
    (aLawSome : At K "_law_some" sLawSome)
    (aLawCells : At K "_law_cells" sLawCells)
    (aLawIds : At K "_law_ids" sLawIds)
    (aLawPrice : At K "_law_price" sLawPrice)
    (aLawLog : At K "_law_log" sLawLog)
    (aLawSnapshots : At K "_law_snapshots" sLawSnapshots)
    (aLawMet : At K "_law_met" sLawMet)
    (aLawTriples : At K "_law_triples" sLawTriples)
    (aLawTargets : At K "_law_targets" sLawTargets)
    (aLawSets : At K "_law_sets" sLawSets)
    (aLaw : At K "law" sLaw)
    (aGoBack : AtD K "go_back" sGoBack [.non])
    (aCheapestWays : AtD K "cheapest_ways" sCheapestWays [.non])
    (aDependencies : AtQ K "dependencies" sDependencies "retracted" (IsTup0 K))
    (aCompacted : AtQ K "compacted" sCompacted "budget" (IsIntV DEFAULT_BUDGET))
    (iKIND : AtI K "KIND" 0)
    (iID : AtI K "ID" 1)
    (iREADS : AtI K "READS" 2)
    (iWRITES : AtI K "WRITES" 3)
    (iPRICE : AtI K "PRICE" 4)
    (iLONGEST_CELL : AtI K "LONGEST_CELL" 4)
    (iLONGEST_ID : AtI K "LONGEST_ID" 6)
    (iMOST_CELLS : AtI K "MOST_CELLS" 3)
    (iHIGHEST_PRICE : AtI K "HIGHEST_PRICE" 99)
    (iMOST_ENTRIES : AtI K "MOST_ENTRIES" 60)
    (iDEFAULT_BUDGET : AtI K "DEFAULT_BUDGET" 10)
    (iHIGHEST_BUDGET : AtI K "HIGHEST_BUDGET" 999)
    (iEND : AtS K "END" "")
    (z_abs : PySem.W.nsIn K mainGlobals "abs" = some none)
    (z_bool : PySem.W.nsIn K mainGlobals "bool" = some none)
    (z_dict : PySem.W.nsIn K mainGlobals "dict" = some none)
    (z_enumerate : PySem.W.nsIn K mainGlobals "enumerate" = some none)
    (z_int : PySem.W.nsIn K mainGlobals "int" = some none)
    (z_isinstance : PySem.W.nsIn K mainGlobals "isinstance" = some none)
    (z_len : PySem.W.nsIn K mainGlobals "len" = some none)
    (z_list : PySem.W.nsIn K mainGlobals "list" = some none)
    (z_min : PySem.W.nsIn K mainGlobals "min" = some none)
    (z_range : PySem.W.nsIn K mainGlobals "range" = some none)
    (z_reversed : PySem.W.nsIn K mainGlobals "reversed" = some none)
    (z_sorted : PySem.W.nsIn K mainGlobals "sorted" = some none)
    (z_str : PySem.W.nsIn K mainGlobals "str" = some none)
    (z_sum : PySem.W.nsIn K mainGlobals "sum" = some none)
    (z_tuple : PySem.W.nsIn K mainGlobals "tuple" = some none)
    : LawG l w K CX0 9 63 "script" mg fa h := by
  have b_abs := PySem.W.mg_none_of X G z_abs
  have b_bool := PySem.W.mg_none_of X G z_bool
  have b_dict := PySem.W.mg_none_of X G z_dict
  have b_enumerate := PySem.W.mg_none_of X G z_enumerate
  have b_int := PySem.W.mg_none_of X G z_int
  have b_isinstance := PySem.W.mg_none_of X G z_isinstance
  have b_len := PySem.W.mg_none_of X G z_len
  have b_list := PySem.W.mg_none_of X G z_list
  have b_min := PySem.W.mg_none_of X G z_min
  have b_range := PySem.W.mg_none_of X G z_range
  have b_reversed := PySem.W.mg_none_of X G z_reversed
  have b_sorted := PySem.W.mg_none_of X G z_sorted
  have b_str := PySem.W.mg_none_of X G z_str
  have b_sum := PySem.W.mg_none_of X G z_sum
  have b_tuple := PySem.W.mg_none_of X G z_tuple
  have gKIND := at_int X G iKIND
  have gID := at_int X G iID
  have gREADS := at_int X G iREADS
  have gWRITES := at_int X G iWRITES
  have gPRICE := at_int X G iPRICE
  have gLONGEST_CELL := at_int X G iLONGEST_CELL
  have gLONGEST_ID := at_int X G iLONGEST_ID
  have gMOST_CELLS := at_int X G iMOST_CELLS
  have gHIGHEST_PRICE := at_int X G iHIGHEST_PRICE
  have gMOST_ENTRIES := at_int X G iMOST_ENTRIES
  have gDEFAULT_BUDGET := at_int X G iDEFAULT_BUDGET
  have gHIGHEST_BUDGET := at_int X G iHIGHEST_BUDGET
  have gEND := at_str X G iEND
  obtain ⟨DIsIntegerWithin⟩ := fn_at X G aIsIntegerWithin (ps := ["value", "lowest", "highest"]) fun _ _ _ _ _ _ us hl => match us, hl with | [_, _, _], _ => rfl
  obtain ⟨DIsId⟩ := fn_at X G aIsId (ps := ["value"]) fun _ _ _ _ _ _ us hl => match us, hl with | [_], _ => rfl
  obtain ⟨DIsCell⟩ := fn_at X G aIsCell (ps := ["value"]) fun _ _ _ _ _ _ us hl => match us, hl with | [_], _ => rfl
  obtain ⟨DIsCells⟩ := fn_at X G aIsCells (ps := ["value", "fewest", "known"]) fun _ _ _ _ _ _ us hl => match us, hl with | [_, _, _], _ => rfl
  obtain ⟨DIsPrice⟩ := fn_at X G aIsPrice (ps := ["value"]) fun _ _ _ _ _ _ us hl => match us, hl with | [_], _ => rfl
  obtain ⟨DIsEntryWith⟩ := fn_at X G aIsEntryWith (ps := ["value", "known"]) fun _ _ _ _ _ _ us hl => match us, hl with | [_, _], _ => rfl
  obtain ⟨DIsLogWithin⟩ := fn_at X G aIsLogWithin (ps := ["value", "most"]) fun _ _ _ _ _ _ us hl => match us, hl with | [_, _], _ => rfl
  obtain ⟨DIsLog⟩ := fn_at X G aIsLog (ps := ["value"]) fun _ _ _ _ _ _ us hl => match us, hl with | [_], _ => rfl
  obtain ⟨DCellsWritten⟩ := fn_at X G aCellsWritten (ps := ["entry"]) fun _ _ _ _ _ _ us hl => match us, hl with | [_], _ => rfl
  obtain ⟨DIsWriteAt⟩ := fn_at X G aIsWriteAt (ps := ["log", "position"]) fun _ _ _ _ _ _ us hl => match us, hl with | [_, _], _ => rfl
  obtain ⟨DIsReadAt⟩ := fn_at X G aIsReadAt (ps := ["log", "position", "cell"]) fun _ _ _ _ _ _ us hl => match us, hl with | [_, _, _], _ => rfl
  obtain ⟨DCheckLog⟩ := fn_at X G aCheckLog (ps := ["log"]) fun _ _ _ _ _ _ us hl => match us, hl with | [_], _ => rfl
  obtain ⟨DCheckReads⟩ := fn_at X G aCheckReads (ps := ["log", "position", "cell"]) fun _ _ _ _ _ _ us hl => match us, hl with | [_, _, _], _ => rfl
  obtain ⟨DPositionIn⟩ := fn_at X G aPositionIn (ps := ["log", "entry_id"]) fun _ _ _ _ _ _ us hl => match us, hl with | [_, _], _ => rfl
  obtain ⟨DCheckRetracted⟩ := fn_at X G aCheckRetracted (ps := ["log", "retracted"]) fun _ _ _ _ _ _ us hl => match us, hl with | [_, _], _ => rfl
  obtain ⟨DCheckMayBeRetracted⟩ := fn_at X G aCheckMayBeRetracted (ps := ["entry"]) fun _ _ _ _ _ _ us hl => match us, hl with | [_], _ => rfl
  obtain ⟨DCheckTarget⟩ := fn_at X G aCheckTarget (ps := ["log", "target"]) fun _ _ _ _ _ _ us hl => match us, hl with | [_, _], _ => rfl
  obtain ⟨DWithoutRetracted⟩ := fn_at X G aWithoutRetracted (ps := ["log", "retracted"]) fun _ _ _ _ _ _ us hl => match us, hl with | [_, _], _ => rfl
  obtain ⟨DTriplesOf⟩ := fn_at X G aTriplesOf (ps := ["live", "target"]) fun _ _ _ _ _ _ us hl => match us, hl with | [_, _], _ => rfl
  obtain ⟨DWayOnward⟩ := fn_at X G aWayOnward (ps := ["onward", "cell"]) fun _ _ _ _ _ _ us hl => match us, hl with | [_, _], _ => rfl
  obtain ⟨DWayFrom⟩ := fn_at X G aWayFrom (ps := ["onward", "entry"]) fun _ _ _ _ _ _ us hl => match us, hl with | [_, _], _ => rfl
  obtain ⟨DAddBlocker⟩ := fn_at X G aAddBlocker (ps := ["onward", "entry"]) fun _ _ _ _ _ _ us hl => match us, hl with | [_, _], _ => rfl
  obtain ⟨DAddReader⟩ := fn_at X G aAddReader (ps := ["onward", "entry", "way"]) fun _ _ _ _ _ _ us hl => match us, hl with | [_, _, _], _ => rfl
  obtain ⟨DCheckBudget⟩ := fn_at X G aCheckBudget (ps := ["budget"]) fun _ _ _ _ _ _ us hl => match us, hl with | [_], _ => rfl
  obtain ⟨DIsWithin⟩ := fn_at X G aIsWithin (ps := ["way", "budget"]) fun _ _ _ _ _ _ us hl => match us, hl with | [_, _], _ => rfl
  obtain ⟨DKeptEntries⟩ := fn_at X G aKeptEntries (ps := ["log", "budget"]) fun _ _ _ _ _ _ us hl => match us, hl with | [_, _], _ => rfl
  obtain ⟨DLawBegin⟩ := fn_at X G aLawBegin (ps := ["script"]) fun _ _ _ _ _ _ us hl => match us, hl with | [_], _ => rfl
  obtain ⟨DLawMixed⟩ := fn_at X G aLawMixed (ps := ["draw"]) fun _ _ _ _ _ _ us hl => match us, hl with | [_], _ => rfl
  obtain ⟨DLawTake⟩ := fn_at X G aLawTake (ps := ["draw", "size"]) fun _ _ _ _ _ _ us hl => match us, hl with | [_, _], _ => rfl
  obtain ⟨DLawPick⟩ := fn_at X G aLawPick (ps := ["draw", "some"]) fun _ _ _ _ _ _ us hl => match us, hl with | [_, _], _ => rfl
  obtain ⟨DLawSome⟩ := fn_at X G aLawSome (ps := ["draw", "things", "least", "most"]) fun _ _ _ _ _ _ us hl => match us, hl with | [_, _, _, _], _ => rfl
  obtain ⟨DLawCells⟩ := fn_at X G aLawCells (ps := ["draw", "many"]) fun _ _ _ _ _ _ us hl => match us, hl with | [_, _], _ => rfl
  obtain ⟨DLawIds⟩ := fn_at X G aLawIds (ps := ["draw", "many"]) fun _ _ _ _ _ _ us hl => match us, hl with | [_, _], _ => rfl
  obtain ⟨DLawPrice⟩ := fn_at X G aLawPrice (ps := ["draw"]) fun _ _ _ _ _ _ us hl => match us, hl with | [_], _ => rfl
  obtain ⟨DLawLog⟩ := fn_at X G aLawLog (ps := ["draw", "many", "cells"]) fun _ _ _ _ _ _ us hl => match us, hl with | [_, _, _], _ => rfl
  obtain ⟨DLawSnapshots⟩ := fn_at X G aLawSnapshots (ps := ["entries", "gone"]) fun _ _ _ _ _ _ us hl => match us, hl with | [_, _], _ => rfl
  obtain ⟨DLawMet⟩ := fn_at X G aLawMet (ps := ["entries", "goal", "gone"]) fun _ _ _ _ _ _ us hl => match us, hl with | [_, _, _], _ => rfl
  obtain ⟨DLawTriples⟩ := fn_at X G aLawTriples (ps := ["entries", "goal", "gone"]) fun _ _ _ _ _ _ us hl => match us, hl with | [_, _, _], _ => rfl
  obtain ⟨DLawTargets⟩ := fn_at X G aLawTargets (ps := ["entries", "cells"]) fun _ _ _ _ _ _ us hl => match us, hl with | [_, _], _ => rfl
  obtain ⟨DLawSets⟩ := fn_at X G aLawSets (ps := ["draw", "names"]) fun _ _ _ _ _ _ us hl => match us, hl with | [_, _], _ => rfl
  obtain ⟨DLaw⟩ := fn_at X G aLaw (ps := ["script"]) fun _ _ _ _ _ _ us hl => match us, hl with | [_], _ => rfl
  obtain ⟨DGoBack⟩ := fnd_at X G aGoBack (ps := ["onward", "entry", "labels"]) 2 rfl (fun _ _ _ _ _ _ _ us its hl hi => match us, its, hl, hi with | [_, _], [_], _, _ => ⟨_, rfl, rfl⟩) fun _ _ _ _ _ _ _ us its hl hi => match us, its, hl, hi with | [_, _, _], [_], _, _ => ⟨_, rfl, rfl⟩
  obtain ⟨DCheapestWays⟩ := fnd_at X G aCheapestWays (ps := ["log", "labels"]) 1 rfl (fun _ _ _ _ _ _ _ us its hl hi => match us, its, hl, hi with | [_], [_], _, _ => ⟨_, rfl, rfl⟩) fun _ _ _ _ _ _ _ us its hl hi => match us, its, hl, hi with | [_, _], [_], _, _ => ⟨_, rfl, rfl⟩
  obtain ⟨DDependencies, uDependencies, pDependencies, LDependencies⟩ := fnq_at (ps := ["log", "target", "retracted"]) 2 X G aDependencies rfl fun _ _ _ _ _ _ us ks h1 h2 => match us, ks, h1, h2 with | [_, _], [_], _, _ => ⟨_, _, _, _, _, _, rfl, rfl, rfl⟩
  obtain ⟨DCompacted, uCompacted, pCompacted, LCompacted⟩ := fnq_at (ps := ["log", "budget"]) 1 X G aCompacted rfl fun _ _ _ _ _ _ us ks h1 h2 => match us, ks, h1, h2 with | [_], [_], _, _ => ⟨_, _, _, _, _, _, rfl, rfl, rfl⟩
  obtain rfl : fa = DLaw.f := by
    have e := hmg.symm.trans DLaw.m
    cases e
    rfl
  refine ⟨DLaw.fd, [], spLaw K, ⟨(fun p hp => by cases hp), (fun p hp => by cases hp), fun p hp => by cases hp⟩, law_binds DLaw.F (fun _ _ _ _ _ _ u => rfl), fun H a ns hl _ _ hS => ⟨a, ns, rfl, hS, hl, fun H' => rfl⟩, fun base KB NB _ => .of ?_⟩
  have GIsIntegerWithin := ok_pwithin (P := l.prog) (w := w) (base := base) DIsIntegerWithin b_isinstance b_int b_bool
  have GIsPrice := ok_pprice (P := l.prog) (w := w) (base := base) DIsPrice DIsIntegerWithin gHIGHEST_PRICE GIsIntegerWithin
  have GIsId := ok_pid (P := l.prog) (w := w) (base := base) DIsId b_isinstance b_len b_str gLONGEST_ID
  have GIsCell := ok_pcell (P := l.prog) (w := w) (base := base) DIsCell DIsId b_len gLONGEST_CELL GIsId
  have GIsCells := ok_pcells (P := l.prog) (w := w) (base := base) DIsCells DIsCell b_isinstance b_len b_tuple b_str gMOST_CELLS GIsCell
  have GIsEntryWith := ok_pentryk (P := l.prog) (w := w) (base := base) DIsEntryWith DIsId DIsPrice DIsCells b_isinstance b_len b_tuple GIsId GIsPrice GIsCells
  have GIsLogWithin := ok_plogw (P := l.prog) (w := w) (base := base) DIsLogWithin DIsEntryWith b_isinstance b_len b_tuple gID GIsEntryWith
  have GIsLog := ok_plog (P := l.prog) (w := w) (base := base) DIsLog DIsLogWithin gMOST_ENTRIES GIsLogWithin
  have GCheckLog := ok_checklog (P := l.prog) (w := w) (base := base) DCheckLog DIsLog GIsLog
  have GLawTake := ok_take (P := l.prog) (w := w) (base := base) DLawTake DLawMixed
  have GLawPick := ok_pick (P := l.prog) (w := w) (base := base) DLawPick DLawTake b_len GLawTake
  have GLawSome := ok_some (P := l.prog) (w := w) (base := base) DLawSome DLawTake b_len b_list b_tuple b_sorted b_range b_min GLawTake
  have GLawCells := ok_cells (P := l.prog) (w := w) (base := base) DLawCells DLawTake b_len b_sorted b_range GLawTake
  have GLawIds := ok_ids (P := l.prog) (w := w) (base := base) DLawIds DLawTake b_len b_str b_range b_min GLawTake
  have GLawPrice := ok_price (P := l.prog) (w := w) (base := base) DLawPrice DLawTake DLawPick GLawTake GLawPick
  have GLawLog := ok_logF (P := l.prog) (w := w) (base := base) DLawLog DLawTake DLawPick DLawPrice DLawSome DLawIds b_tuple GLawTake GLawPick GLawPrice GLawSome GLawIds
  have GLawBegin := ok_begin (P := l.prog) (w := w) (base := base) DLawBegin b_abs
  have GWayOnward := ok_onward (P := l.prog) (w := w) (base := base) DWayOnward gEND
  have GWayFrom := ok_wayfrom (P := l.prog) (w := w) (base := base) DWayFrom DWayOnward b_min gWRITES GWayOnward
  have GAddBlocker := ok_addblocker (P := l.prog) (w := w) (base := base) DAddBlocker DWayOnward gWRITES gPRICE GWayOnward
  have GAddReader := ok_addreader (P := l.prog) (w := w) (base := base) DAddReader DWayOnward gREADS gID GWayOnward
  have GGoBack := ok_goback (P := l.prog) (w := w) (base := base) DGoBack DWayFrom DAddBlocker DAddReader gKIND gID GWayFrom GAddBlocker GAddReader
  have GCheapestWays := ok_ways (P := l.prog) (w := w) (base := base) DCheapestWays DGoBack b_reversed gKIND gID GGoBack
  have GCheckBudget := ok_budget (P := l.prog) (w := w) (base := base) DCheckBudget DIsIntegerWithin gHIGHEST_BUDGET GIsIntegerWithin
  have GIsWithin := ok_in (P := l.prog) (w := w) (base := base) DIsWithin
  have GKeptEntries := ok_kept (P := l.prog) (w := w) (base := base) DKeptEntries DCheapestWays DIsWithin b_tuple gKIND gID GCheapestWays GIsWithin
  have BC : KBn K DCompacted.fd ["log", "budget"] 1 ["budget"] (· ++ ·) (· ++ ·) := kbn_mk DCompacted.F (fun _ _ _ _ _ _ us ws h1 h2 => match us, ws, h1, h2 with | [_], [_], _, _ => rfl) fun r1 r2 => r1.append r2
  have GCompacted := ok_compacted (P := l.prog) (w := w) (base := base) ⟨DCompacted.f, DCompacted.fd, DCompacted.F, DCompacted.m, BC⟩ DCheckLog DCheckBudget DKeptEntries GCheckLog GCheckBudget GKeptEntries
  have GCellsWritten := ok_cellsw (P := l.prog) (w := w) (base := base) DCellsWritten gKIND gWRITES
  have GIsWriteAt := ok_writeat (P := l.prog) (w := w) (base := base) DIsWriteAt b_len gKIND
  have GIsReadAt := ok_readat (P := l.prog) (w := w) (base := base) DIsReadAt DIsCell b_len gREADS GIsCell
  have GCheckReads := ok_checkreads (P := l.prog) (w := w) (base := base) DCheckReads DIsReadAt GIsReadAt
  have GPositionIn := ok_pos (P := l.prog) (w := w) (base := base) DPositionIn b_len b_enumerate gEND gID
  have GWithoutRetracted := ok_without (P := l.prog) (w := w) (base := base) DWithoutRetracted b_tuple gID
  have GMayBe := ok_maybe (P := l.prog) (w := w) (base := base) DCheckMayBeRetracted gKIND gPRICE
  have GCheckRetracted := ok_retr (P := l.prog) (w := w) (base := base) DCheckRetracted DIsId DCheckMayBeRetracted b_isinstance b_list b_tuple gID GIsId GMayBe
  have GCheckTarget := ok_target (P := l.prog) (w := w) (base := base) DCheckTarget DPositionIn DIsWriteAt DCheckReads b_isinstance b_tuple b_len GPositionIn GIsWriteAt GCheckReads
  have GTriplesOf := ok_triples (P := l.prog) (w := w) (base := base) DTriplesOf DPositionIn DCellsWritten b_reversed gID gREADS GPositionIn GCellsWritten
  have GDependencies := ok_deps (P := l.prog) (w := w) (base := base) DDependencies DCheckLog DCheckRetracted DCheckTarget DTriplesOf DWithoutRetracted GCheckLog GCheckRetracted GCheckTarget GTriplesOf GWithoutRetracted
  have BDep : KBn K DDependencies.fd ["log", "target", "retracted"] 2 ["retracted"] (· ++ ·) (· ++ ·) := kbn_mk DDependencies.F (fun _ _ _ _ _ _ us ws h1 h2 => match us, ws, h1, h2 with | [_, _], [_], _, _ => rfl) fun r1 r2 => r1.append r2
  have GLawSets := ok_sets (P := l.prog) (w := w) (base := base) DLawSets DLawTake b_len b_list b_range b_enumerate GLawTake
  exact ok_law DLaw DLawBegin DLawTake DLawPick DLawCells DLawLog DLawSets DLawSnapshots DLawMet DLawTriples DLawTargets b_enumerate b_dict b_len b_sorted b_sum b_range b_min DDependencies BDep DCompacted BC GLawBegin GLawTake GLawPick GLawCells GLawLog GLawSets GDependencies GCompacted
end NV
open PySem PySem.W PyProof.Rows
set_option maxRecDepth 100000 in
set_option maxHeartbeats 0 in
theorem PySem.Challenge.cw_neverwas_k13_whole_answers_of_kept_entri_holds : PySem.Challenge.rw_neverwas_k13_whole_answers_of_kept_entri.Holds := by
  w_on; o_law; k_head; (case hw => w_witness2)
  k_fill
  refine NV.walk_ofG (l := PySem.Challenge.rw_neverwas_k13_whole_answers_of_kept_entri) (n := 63) (k := 9) (x := "script") rfl (by decide) rfl ⟨rfl, by decide, by decide⟩ (fun w h Y => PySem.W.kIn_of Y) ?F
  case F =>
    intro w mg fa h Y KX G hmg
    refine' NV.all_mk KX G hmg ?aIsIntegerWithin ?aIsId ?aIsCell ?aIsCells ?aIsPrice ?aIsEntryWith ?aIsLogWithin ?aIsLog ?aCellsWritten ?aIsWriteAt ?aIsReadAt ?aCheckLog ?aCheckReads ?aPositionIn ?aCheckRetracted ?aCheckMayBeRetracted ?aCheckTarget ?aWithoutRetracted ?aTriplesOf ?aWayOnward ?aWayFrom ?aAddBlocker ?aAddReader ?aCheckBudget ?aIsWithin ?aKeptEntries ?aLawBegin ?aLawMixed ?aLawTake ?aLawPick ?aLawSome ?aLawCells ?aLawIds ?aLawPrice ?aLawLog ?aLawSnapshots ?aLawMet ?aLawTriples ?aLawTargets ?aLawSets ?aLaw ?aGoBack ?aCheapestWays ?aDependencies ?aCompacted ?iKIND ?iID ?iREADS ?iWRITES ?iPRICE ?iLONGEST_CELL ?iLONGEST_ID ?iMOST_CELLS ?iHIGHEST_PRICE ?iMOST_ENTRIES ?iDEFAULT_BUDGET ?iHIGHEST_BUDGET ?iEND ?z_abs ?z_bool ?z_dict ?z_enumerate ?z_int ?z_isinstance ?z_len ?z_list ?z_min ?z_range ?z_reversed ?z_sorted ?z_str ?z_sum ?z_tuple
    (case aIsIntegerWithin => refine' NV.at_mk ?a ?l ?c ?k; (case a => k_is); (case l => k_is); (case c => k_is); (case k => k_is))
    (case aIsId => refine' NV.at_mk ?a ?l ?c ?k; (case a => k_is); (case l => k_is); (case c => k_is); (case k => k_is))
    (case aIsCell => refine' NV.at_mk ?a ?l ?c ?k; (case a => k_is); (case l => k_is); (case c => k_is); (case k => k_is))
    (case aIsCells => refine' NV.at_mk ?a ?l ?c ?k; (case a => k_is); (case l => k_is); (case c => k_is); (case k => k_is))
    (case aIsPrice => refine' NV.at_mk ?a ?l ?c ?k; (case a => k_is); (case l => k_is); (case c => k_is); (case k => k_is))
    (case aIsEntryWith => refine' NV.at_mk ?a ?l ?c ?k; (case a => k_is); (case l => k_is); (case c => k_is); (case k => k_is))
    (case aIsLogWithin => refine' NV.at_mk ?a ?l ?c ?k; (case a => k_is); (case l => k_is); (case c => k_is); (case k => k_is))
    (case aIsLog => refine' NV.at_mk ?a ?l ?c ?k; (case a => k_is); (case l => k_is); (case c => k_is); (case k => k_is))
    (case aCellsWritten => refine' NV.at_mk ?a ?l ?c ?k; (case a => k_is); (case l => k_is); (case c => k_is); (case k => k_is))
    (case aIsWriteAt => refine' NV.at_mk ?a ?l ?c ?k; (case a => k_is); (case l => k_is); (case c => k_is); (case k => k_is))
    (case aIsReadAt => refine' NV.at_mk ?a ?l ?c ?k; (case a => k_is); (case l => k_is); (case c => k_is); (case k => k_is))
    (case aCheckLog => refine' NV.at_mk ?a ?l ?c ?k; (case a => k_is); (case l => k_is); (case c => k_is); (case k => k_is))
    (case aCheckReads => refine' NV.at_mk ?a ?l ?c ?k; (case a => k_is); (case l => k_is); (case c => k_is); (case k => k_is))
    (case aPositionIn => refine' NV.at_mk ?a ?l ?c ?k; (case a => k_is); (case l => k_is); (case c => k_is); (case k => k_is))
    (case aCheckRetracted => refine' NV.at_mk ?a ?l ?c ?k; (case a => k_is); (case l => k_is); (case c => k_is); (case k => k_is))
    (case aCheckMayBeRetracted => refine' NV.at_mk ?a ?l ?c ?k; (case a => k_is); (case l => k_is); (case c => k_is); (case k => k_is))
    (case aCheckTarget => refine' NV.at_mk ?a ?l ?c ?k; (case a => k_is); (case l => k_is); (case c => k_is); (case k => k_is))
    (case aWithoutRetracted => refine' NV.at_mk ?a ?l ?c ?k; (case a => k_is); (case l => k_is); (case c => k_is); (case k => k_is))
    (case aTriplesOf => refine' NV.at_mk ?a ?l ?c ?k; (case a => k_is); (case l => k_is); (case c => k_is); (case k => k_is))
    (case aWayOnward => refine' NV.at_mk ?a ?l ?c ?k; (case a => k_is); (case l => k_is); (case c => k_is); (case k => k_is))
    (case aWayFrom => refine' NV.at_mk ?a ?l ?c ?k; (case a => k_is); (case l => k_is); (case c => k_is); (case k => k_is))
    (case aAddBlocker => refine' NV.at_mk ?a ?l ?c ?k; (case a => k_is); (case l => k_is); (case c => k_is); (case k => k_is))
    (case aAddReader => refine' NV.at_mk ?a ?l ?c ?k; (case a => k_is); (case l => k_is); (case c => k_is); (case k => k_is))
    (case aCheckBudget => refine' NV.at_mk ?a ?l ?c ?k; (case a => k_is); (case l => k_is); (case c => k_is); (case k => k_is))
    (case aIsWithin => refine' NV.at_mk ?a ?l ?c ?k; (case a => k_is); (case l => k_is); (case c => k_is); (case k => k_is))
    (case aKeptEntries => refine' NV.at_mk ?a ?l ?c ?k; (case a => k_is); (case l => k_is); (case c => k_is); (case k => k_is))
    (case aLawBegin => refine' NV.at_mk ?a ?l ?c ?k; (case a => k_is); (case l => k_is); (case c => k_is); (case k => k_is))
    (case aLawMixed => refine' NV.at_mk ?a ?l ?c ?k; (case a => k_is); (case l => k_is); (case c => k_is); (case k => k_is))
    (case aLawTake => refine' NV.at_mk ?a ?l ?c ?k; (case a => k_is); (case l => k_is); (case c => k_is); (case k => k_is))
    (case aLawPick => refine' NV.at_mk ?a ?l ?c ?k; (case a => k_is); (case l => k_is); (case c => k_is); (case k => k_is))
    (case aLawSome => refine' NV.at_mk ?a ?l ?c ?k; (case a => k_is); (case l => k_is); (case c => k_is); (case k => k_is))
    (case aLawCells => refine' NV.at_mk ?a ?l ?c ?k; (case a => k_is); (case l => k_is); (case c => k_is); (case k => k_is))
    (case aLawIds => refine' NV.at_mk ?a ?l ?c ?k; (case a => k_is); (case l => k_is); (case c => k_is); (case k => k_is))
    (case aLawPrice => refine' NV.at_mk ?a ?l ?c ?k; (case a => k_is); (case l => k_is); (case c => k_is); (case k => k_is))
    (case aLawLog => refine' NV.at_mk ?a ?l ?c ?k; (case a => k_is); (case l => k_is); (case c => k_is); (case k => k_is))
    (case aLawSnapshots => refine' NV.at_mk ?a ?l ?c ?k; (case a => k_is); (case l => k_is); (case c => k_is); (case k => k_is))
    (case aLawMet => refine' NV.at_mk ?a ?l ?c ?k; (case a => k_is); (case l => k_is); (case c => k_is); (case k => k_is))
    (case aLawTriples => refine' NV.at_mk ?a ?l ?c ?k; (case a => k_is); (case l => k_is); (case c => k_is); (case k => k_is))
    (case aLawTargets => refine' NV.at_mk ?a ?l ?c ?k; (case a => k_is); (case l => k_is); (case c => k_is); (case k => k_is))
    (case aLawSets => refine' NV.at_mk ?a ?l ?c ?k; (case a => k_is); (case l => k_is); (case c => k_is); (case k => k_is))
    (case aLaw => refine' NV.at_mk ?a ?l ?c ?k; (case a => k_is); (case l => k_is); (case c => k_is); (case k => k_is))
    (case aGoBack => refine' NV.atD_mk ?a ?l ?c ?k ?t; (case a => k_is); (case l => k_is); (case c => k_is); (case k => k_is); (case t => k_is))
    (case aCheapestWays => refine' NV.atD_mk ?a ?l ?c ?k ?t; (case a => k_is); (case l => k_is); (case c => k_is); (case k => k_is); (case t => k_is))
    (case aDependencies => refine' NV.atQ_mk ?a ?l ?c ?k ?dq ?pq; (case a => k_is); (case l => k_is); (case c => k_is); (case k => k_is); (case dq => k_is); (case pq => refine' NV.tup0_mk ?tq; (case tq => k_is)))
    (case aCompacted => refine' NV.atQ_mk ?a ?l ?c ?k ?dq ?pq; (case a => k_is); (case l => k_is); (case c => k_is); (case k => k_is); (case dq => k_is); (case pq => exact NV.intV_mk))
    (case iKIND => refine' NV.atI_mk ?a; (case a => k_is))
    (case iID => refine' NV.atI_mk ?a; (case a => k_is))
    (case iREADS => refine' NV.atI_mk ?a; (case a => k_is))
    (case iWRITES => refine' NV.atI_mk ?a; (case a => k_is))
    (case iPRICE => refine' NV.atI_mk ?a; (case a => k_is))
    (case iLONGEST_CELL => refine' NV.atI_mk ?a; (case a => k_is))
    (case iLONGEST_ID => refine' NV.atI_mk ?a; (case a => k_is))
    (case iMOST_CELLS => refine' NV.atI_mk ?a; (case a => k_is))
    (case iHIGHEST_PRICE => refine' NV.atI_mk ?a; (case a => k_is))
    (case iMOST_ENTRIES => refine' NV.atI_mk ?a; (case a => k_is))
    (case iDEFAULT_BUDGET => refine' NV.atI_mk ?a; (case a => k_is))
    (case iHIGHEST_BUDGET => refine' NV.atI_mk ?a; (case a => k_is))
    (case iEND => refine' NV.atS_mk ?a; (case a => k_is))
    (case z_abs => k_is)
    (case z_bool => k_is)
    (case z_dict => k_is)
    (case z_enumerate => k_is)
    (case z_int => k_is)
    (case z_isinstance => k_is)
    (case z_len => k_is)
    (case z_list => k_is)
    (case z_min => k_is)
    (case z_range => k_is)
    (case z_reversed => k_is)
    (case z_sorted => k_is)
    (case z_str => k_is)
    (case z_sum => k_is)
    (case z_tuple => k_is)
