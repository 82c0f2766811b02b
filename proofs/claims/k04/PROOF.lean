import PyProof.Rows.All
import Wide.All
import OpenK.AllK
import Wide.FinOn
import HandS.ForMost
import HandS.ForExc
import HandS.Style
import HandS.IsInst
import HandS.ExcInit
import HandS.Evl
import HandS.CallSlots
import HandS.Flow
import HandS.SortInts
import KE.KSortTupAny
import PyProof.Rows.SortStr
import PyProof.TupleOfSeq
import HandS.TupSets
import HandS.SetKeys
import HandS.SetBool
import HandS.Strs
import KE.KCallOwn
import PyProof.InstNe
import PyProof.NeKinds
import HandS.Deep
import HandS.TupAny
import HandS.Text
import HandS.Walk
import HandS.ExcIs
import HandS.ExcValue
import HandS.MakeKw
import HandS.ExcField
import HandS.FStr
import HandS.Star
import HandS.RaiseMore
import HandS.CallLocal
import HandS.ClsMeth
import KE.IntTextLaws
import PyProof.Rows.StrSplitAre
import HandS.Set
import HandS.Defaults
import HandS.Replace
import HandS.More
import PyProof.Rows.StrCountLaw
import PySem.Challenge.RW_plateways_k04_texts_of_steps
set_option Elab.async false
set_option linter.all false
set_option maxRecDepth 100000
set_option maxHeartbeats 2000000
/-! general words: a pair of addresses set apart, a turned slice -/
namespace Vf
open PySem PySem.Spec PyProof.Rows L2

/-- the abstract heap without two addresses (a dealer and its cells) -/
def hide (p c : Addr) (H : Hp) : Hp := fun b => if b = p ∨ b = c then none else H b
theorem hide_p {p c : Addr} {H : Hp} : hide p c H p = none := if_pos (.inl rfl)
theorem hide_c {p c : Addr} {H : Hp} : hide p c H c = none := if_pos (.inr rfl)
theorem hide_ne {p c b : Addr} {H : Hp} (h1 : b ≠ p) (h2 : b ≠ c) : hide p c H b = H b := if_neg fun z => z.elim h1 h2
theorem hide_some {p c b : Addr} {H : Hp} {o : HO} (e : hide p c H b = some o) : b ≠ p ∧ b ≠ c ∧ H b = some o := by
  unfold hide at e
  split at e
  · cases e
  · rename_i hn
    exact ⟨fun z => hn (.inl z), fun z => hn (.inr z), e⟩
theorem hide_le {p c : Addr} {H : Hp} : Same (hide p c H) H := fun b o e => (hide_some e).2.2
theorem hide_mono {p c : Addr} {H H' : Hp} (s : Same H H') : Same (hide p c H) (hide p c H') := fun b o e => by
  obtain ⟨h1, h2, e⟩ := hide_some e
  rw [hide_ne h1 h2]
  exact s b o e
theorem same_new {H : Hp} {q : Addr} {o : HO} (h : H q = none) : Same H (upd H q o) := fun b u e => by
  rw [upd_ne (ne_of_none e h)]
  exact e
/-- what is written at the dealer or its cells is not seen -/
theorem hide_updp {p c : Addr} {H : Hp} {o : HO} : hide p c (upd H p o) = hide p c H := by
  funext b
  unfold hide
  split
  · rfl
  · rename_i hn
    exact upd_ne fun z => hn (.inl z)
theorem hide_updc {p c : Addr} {H : Hp} {o : HO} : hide p c (upd H c o) = hide p c H := by
  funext b
  unfold hide
  split
  · rfl
  · rename_i hn
    exact upd_ne fun z => hn (.inr z)

section
variable {X : Cx}
/-- e[::s], s = -1 -/
def tTurn (K : PySem.W.Frag) (te : TE) (ts : TO) : TE := fun σ H Q => te σ H fun x H1 => ∃ a xs, x = .ref a ∧ ts σ H1 fun o H2 => o = some (-1) ∧ SqL K H2 a xs ∧ ∀ p, H2 p = none → Q (.ref p) (upd H2 p (.lst xs.reverse))
theorem pe_turn {e st : Expr} {te : TE} {ts : TO} {p3 pos : Pos} (he : PE X e te) (hs : PO X (some st) ts) : PE X (.Subscript e (.Slice none none (some st) p3) pos) (tTurn X.K te ts) := by
  refine ⟨fun pins s σ H Q I h => ?_⟩
  refine Subscript_ (thn (he.run pins s σ H _ I h) fun v s1 ⟨x, H1, I1, r1, a, xs, ex, q⟩ => ?_)
  subst ex
  cases r1
  refine wpAny_Slice (thn (po_none.run pins s1 σ H1 (fun o K2 => o = none ∧ K2 = H1) I1 ⟨rfl, rfl⟩) fun vl s2 ⟨l, H2, I2, pl, el, e2⟩ => ?_)
  subst el e2
  refine thn (po_none.run pins s2 σ H2 (fun o K3 => o = none ∧ K3 = H2) I2 ⟨rfl, rfl⟩) fun vu s3 ⟨u, H3, I3, pu, eu, e3⟩ => ?_
  subst eu e3
  refine thn (hs.run pins s3 σ H3 _ I3 q) fun vs s4 ⟨o, H4, I4, ps, eo, hx, q4⟩ => ?_
  subst eo
  have I5 := I4.kept (t' := s4.toks) (h' := s4.heap.push { cls := .type "slice", data := .fields #[vl, vu, vs] }) fun b ob z => Heap.get?_push_of_some _ z
  obtain ⟨its, r, ht, hz⟩ := I5.list hx
  have hlen := r.length
  refine tail_any (ops := [.ref a, .ref s4.heap.objs.size]) ht.isList.typeIs (PySem.slot_list_getitem.lookup) ?_ (by with_unfolding_all rfl)
  refine wpAny_getItem_list_slice ht.isList (Heap.IsSliceOf.new _ vl vu vs) pl pu ps (by decide) ?_ (by rw [List.size_toArray]; omega)
  rw [PySem.W.krv_pick]
  refine ⟨.ref _, _, I5.laid (t' := s4.toks) (o := .lst xs.reverse) (fun b ob z => Heap.get?_push_of_some _ z) (Nat.le_refl _) ?_, rfl, q4 _ (I5.hok.fresh (Nat.le_refl _))⟩
  exact ⟨by rw [List.length_reverse]; exact hz, _, 0, r.reverse, Heap.get?_push_size _ rfl⟩
end

theorem cut_ints (ns : List Int) (lo hi : Option Int) : ∃ cs : List Int, cutV (ns.map V.int) lo hi = cs.map V.int ∧ cs.length ≤ ns.length := by
  refine ⟨(ns.drop (HT.sIx (ns.map V.int).length 0 lo)).take (HT.sIx (ns.map V.int).length (ns.map V.int).length hi - HT.sIx (ns.map V.int).length 0 lo), ?_, ?_⟩
  · unfold cutV
    rw [List.map_take, List.map_drop]
  · rw [List.length_take, List.length_drop]
    omega
theorem int_at {cs : List Int} {i : Nat} {x : V} (h : (cs.map V.int)[i]? = some x) : ∃ z, cs[i]? = some z ∧ x = .int z := by
  rw [List.getElem?_map] at h
  cases e : cs[i]? with
  | none =>
    rw [e] at h
    cases h
  | some z =>
    rw [e] at h
    exact ⟨z, rfl, (Option.some.inj h).symm⟩
theorem lt_of_at {α : Type} {cs : List α} {i : Nat} {x : α} (h : cs[i]? = some x) : i < cs.length := (List.getElem?_eq_some_iff.mp h).1
theorem map_snoc {α β : Type} (f : α → β) (l : List α) (x : α) : l.map f ++ [f x] = (l ++ [x]).map f := by
  rw [List.map_append]
  rfl
theorem small100 {n : Nat} (h : n ≤ 100000) : n < sizeLine := Nat.lt_of_le_of_lt h (by decide)
theorem yes_then {σ : L2.St} {H : Hp} {F G : Hp → Prop} (h : F H) : tYes σ H (fun b H3 => if b = true then F H3 else G H3) := by
  show (if true = true then F H else G H)
  rw [if_pos rfl]
  exact h

/-! data -/
theorem dpAll_ints {K : PySem.W.Frag} {H : Hp} : ∀ bs : List Int, DpAll K H (bs.map V.int) (bs.map PyData.int)
  | [] => .nil
  | b :: bs => .cons (.int b) (dpAll_ints bs)
theorem canLay_ints : ∀ bs : List Int, PyData.canLayAll0 (bs.map PyData.int) = true
  | [] => by simp [PyData.canLayAll0]
  | b :: bs => by simp [PyData.canLayAll0, PyData.canLay0, canLay_ints bs]
theorem depth_ints : ∀ bs : List Int, PyData.depthAll (bs.map PyData.int) = 0
  | [] => by simp [PyData.depthAll]
  | b :: bs => by simp [PyData.depthAll, PyData.depth, depth_ints bs]
theorem shaped_ints (bs : List Int) : SeqAt.shaped (.list (bs.map PyData.int)) = true := by
  simp [SeqAt.shaped, PyData.canLay0, PyData.depth, canLay_ints, depth_ints]
theorem shaped_nil : SeqAt.shaped (.list []) = true := shaped_ints []
theorem eqv_nil (ds : List PyData) : PyData.eqv (.list ds) (.list []) = ds.isEmpty := by
  cases ds <;> simp [PyData.eqv, PyData.eqvAll]
theorem last_at {α : Type} {l : List α} (h : l ≠ []) : ∃ x, l[l.length - 1]? = some x ∧ l = l.dropLast ++ [x] ∧ atI l (-1) = some x := by
  have hd := (List.dropLast_concat_getLast h).symm
  refine ⟨l.getLast h, ?_, hd, ?_⟩
  · rw [← List.getLast?_eq_getElem?, List.getLast?_eq_some_getLast h]
  · have q := atI_last l.dropLast (l.getLast h)
    rw [← hd] at q
    exact q

theorem same_seqT {K : PySem.W.Frag} {H H' : Hp} {a : Addr} {xs : List V} (e : Same H H') (h : SqT K H a xs) : SqT K H' a xs := by
  rcases h with (h | ⟨o, h⟩) | h
  · exact .inl (.inl (e _ _ h))
  · exact .inl (.inr ⟨o, e _ _ h⟩)
  · exact .inr h
mutual
theorem dp_mono {K : PySem.W.Frag} {H H' : Hp} (e : Same H H') : ∀ (d : PyData) (v : V), Dp K H v d → Dp K H' v d
  | .none, _, h => by
    cases h
    exact .non
  | .bool b, _, h => by
    cases h
    exact .bl b
  | .int i, _, h => by
    cases h
    exact .int i
  | .str x, _, h => by
    cases h
    exact .str x
  | .list ds, _, h => by
    cases h with
    | lst hs ha => exact .lst (e.seq hs) (dpAll_mono e ds _ ha)
  | .tuple ds, _, h => by
    cases h with
    | tup hs ha => exact .tup (same_seqT e hs) (dpAll_mono e ds _ ha)
  | .dict _, _, h => by cases h
theorem dpAll_mono {K : PySem.W.Frag} {H H' : Hp} (e : Same H H') : ∀ (ds : List PyData) (vs : List V), DpAll K H vs ds → DpAll K H' vs ds
  | [], _, h => by
    cases h
    exact .nil
  | d :: ds, _, h => by
    cases h with
    | cons h1 h2 => exact .cons (dp_mono e d _ h1) (dpAll_mono e ds _ h2)
end
theorem dpAll_at {K : PySem.W.Frag} {H : Hp} : ∀ {vs : List V} {ds : List PyData} {i : Nat} {v : V}, DpAll K H vs ds → vs[i]? = some v → ∃ d, ds[i]? = some d ∧ Dp K H v d
  | _, _, _, _, .nil, h => by simp at h
  | _, _, 0, _, .cons a _, h => by
    simp at h
    subst h
    exact ⟨_, rfl, a⟩
  | _, _, i + 1, _, .cons _ r, h => by
    obtain ⟨d, h1, h2⟩ := dpAll_at (i := i) r (by simpa using h)
    exact ⟨d, by simpa using h1, h2⟩
theorem dpAll_snoc {K : PySem.W.Frag} {H : Hp} {v : V} {d : PyData} (x : Dp K H v d) : ∀ {vs : List V} {ds : List PyData}, DpAll K H vs ds → DpAll K H (vs ++ [v]) (ds ++ [d])
  | _, _, .nil => .cons x .nil
  | _, _, .cons a r => .cons a (dpAll_snoc x r)
theorem dpAll_len {K : PySem.W.Frag} {H : Hp} : ∀ {vs : List V} {ds : List PyData}, DpAll K H vs ds → vs.length = ds.length
  | _, _, .nil => rfl
  | _, _, .cons _ r => congrArg (· + 1) (dpAll_len r)

/-- a datum that can be compared and shown, at most n deep -/
structure Good (n : Nat) (d : PyData) : Prop where
  lay : d.canLay0 = true
  dep : d.depth ≤ n + 1
  sho : d.showable = true
  nod : d.hasDict = false
  len : d.shown.length ≤ 25 * 4 ^ n
theorem four_pos (n : Nat) : 1 ≤ 4 ^ n := Nat.one_le_pow _ _ (by decide)
theorem Good.mono {n m : Nat} {d : PyData} (g : Good n d) (h : n ≤ m) : Good m d :=
  ⟨g.lay, Nat.le_trans g.dep (by omega), g.sho, g.nod, Nat.le_trans g.len (Nat.mul_le_mul_left _ (Nat.pow_le_pow_right (by decide) h))⟩
theorem good_all {n : Nat} : ∀ {ds : List PyData}, (∀ d ∈ ds, Good n d) → PyData.canLayAll0 ds = true ∧ PyData.depthAll ds ≤ n + 1 ∧ PyData.showableAll ds = true ∧ PyData.hasDictAll ds = false ∧
    ((PyData.shownAll ds).map (·.length)).sum ≤ ds.length * (25 * 4 ^ n) ∧ (PyData.shownAll ds).length = ds.length
  | [], _ => by simp [PyData.canLayAll0, PyData.depthAll, PyData.showableAll, PyData.hasDictAll, PyData.shownAll]
  | d :: ds, h => by
    obtain ⟨h1, h2, h3, h4, h5, h6⟩ := good_all (ds := ds) fun x hx => h x (List.mem_cons_of_mem _ hx)
    have g := h d List.mem_cons_self
    refine ⟨?_, ?_, ?_, ?_, ?_, ?_⟩
    · simp [PyData.canLayAll0, g.lay, h1]
    · simp only [PyData.depthAll]
      have := g.dep
      omega
    · simp [PyData.showableAll, g.sho, h3]
    · simp [PyData.hasDictAll, g.nod, h4]
    · simp only [PyData.shownAll, List.map_cons, List.sum_cons, List.length_cons]
      have := g.len
      rw [Nat.add_mul]
      omega
    · simp [PyData.shownAll, h6]
theorem good_list {n : Nat} {ds : List PyData} (h : ∀ d ∈ ds, Good n d) (h3 : ds.length ≤ 3) : Good (n + 1) (.list ds) := by
  obtain ⟨h1, h2, h3', h4, h5, h6⟩ := good_all h
  have := four_pos n
  refine ⟨by simpa [PyData.canLay0] using h1, by simp only [PyData.depth]; omega, by simpa [PyData.showable] using h3', by simpa [PyData.hasDict] using h4, ?_⟩
  have q := listText_len_le (PyData.shownAll ds)
  simp only [PyData.shown]
  have m : ds.length * (25 * 4 ^ n) ≤ 3 * (25 * 4 ^ n) := Nat.mul_le_mul_right _ h3
  rw [Nat.pow_succ]
  omega
theorem good_tuple {n : Nat} {ds : List PyData} (h : ∀ d ∈ ds, Good n d) (h3 : ds.length ≤ 3) : Good (n + 1) (.tuple ds) := by
  obtain ⟨h1, h2, h3', h4, h5, h6⟩ := good_all h
  have := four_pos n
  refine ⟨by simpa [PyData.canLay0] using h1, by simp only [PyData.depth]; omega, by simpa [PyData.showable] using h3', by simpa [PyData.hasDict] using h4, ?_⟩
  have q := tupleText_len_le (PyData.shownAll ds)
  simp only [PyData.shown]
  have m : ds.length * (25 * 4 ^ n) ≤ 3 * (25 * 4 ^ n) := Nat.mul_le_mul_right _ h3
  rw [Nat.pow_succ]
  omega
theorem Good.shaped {n : Nat} {d : PyData} (g : Good n d) (h : n ≤ 63) : SeqAt.shaped d = true := by
  have := g.dep
  simp [SeqAt.shaped, g.lay]
  omega
/-- the data from which the things are made -/
def seeds : List PyData := [.none, .bool true, .bool false, .int 0, .int 1, .int (-2), .str "", .str "a", .str "go", .str "board", .str "A", .str "a\n", .tuple [], .list [], .tuple [.str "a", .str "b", .int 0], .tuple [.str "a", .str "b"]]
theorem good_seed : ∀ d ∈ seeds, Good 0 d := by
  have h : seeds.all (fun d => d.canLay0 && decide (d.depth ≤ 1) && d.showable && !d.hasDict && decide (d.shown.length ≤ 25)) = true := by decide +kernel
  intro d hd
  have q := List.all_eq_true.mp h d hd
  simp only [Bool.and_eq_true, decide_eq_true_eq, Bool.not_eq_true'] at q
  exact ⟨q.1.1.1.1, by omega, q.1.1.2, q.1.2, by simpa using q.2⟩
/-- a heap by a name -/
theorem named {F : Hp → Prop} {G0 : Hp} (f : F G0) : ∃ G, F G ∧ G0 = G := ⟨G0, f, rfl⟩

/-- one address more is set apart -/
theorem hide_two {p c l : Addr} {H H' : Hp} (s : Same (hide p c H) (hide p c H')) : Same (hide p c (hide l l H)) (hide p c (hide l l H')) := fun b o e => by
  obtain ⟨h1, h2, e1⟩ := hide_some e
  obtain ⟨h3, _, e2⟩ := hide_some e1
  have q := s b o (by rw [hide_ne h1 h2]; exact e2)
  obtain ⟨_, _, q2⟩ := hide_some q
  rw [hide_ne h1 h2, hide_ne h3 h3]
  exact q2
theorem hide_one {p c l : Addr} {H : Hp} : Same (hide p c (hide l l H)) (hide p c H) := hide_mono hide_le
theorem hide_upd1 {p c l : Addr} {H : Hp} {o : HO} : hide p c (hide l l (upd H l o)) = hide p c (hide l l H) := by rw [hide_updp]
theorem hide_new {p c l : Addr} {H : Hp} {o : HO} (h : H l = none) : Same (hide p c H) (hide p c (hide l l (upd H l o))) := fun b u e => by
  obtain ⟨h1, h2, e1⟩ := hide_some e
  have n := ne_of_none e1 h
  rw [hide_ne h1 h2, hide_ne n n, upd_ne n]
  exact e1
theorem hide_off {p c l : Addr} {H H0 : Hp} (h : H0 l = none) (s : Same (hide p c H0) (hide p c H)) : Same (hide p c H0) (hide p c (hide l l H)) := fun b u e => by
  obtain ⟨h1, h2, e1⟩ := hide_some e
  have n := ne_of_none e1 h
  obtain ⟨_, _, q⟩ := hide_some (s b u e)
  rw [hide_ne h1 h2, hide_ne n n]
  exact q

/-! what is new -/
def fresh (H H' : Hp) : Hp := fun b => if H b = none then H' b else none
theorem fresh_in {H H' : Hp} {b : Addr} (n : H b = none) : fresh H H' b = H' b := if_pos n
theorem fresh_some {H H' : Hp} {b : Addr} {o : HO} (e : fresh H H' b = some o) : H b = none ∧ H' b = some o := by
  unfold fresh at e
  split at e
  · exact ⟨by assumption, e⟩
  · cases e
theorem fresh_le {H H' : Hp} : Same (fresh H H') H' := fun b o e => (fresh_some e).2
theorem fresh_mono {H H1 H2 : Hp} (s : Same H1 H2) : Same (fresh H H1) (fresh H H2) := fun b o e => by
  obtain ⟨n, e⟩ := fresh_some e
  rw [fresh_in n]
  exact s b o e
theorem fresh_step {H G H' : Hp} {p c : Addr} (hp : H p ≠ none) (hc : H c ≠ none) (s : Same (hide p c G) (hide p c H')) : Same (fresh H G) (fresh H H') := fun b o e => by
  obtain ⟨n, e⟩ := fresh_some e
  have h1 : b ≠ p := fun z => hp (z ▸ n)
  have h2 : b ≠ c := fun z => hc (z ▸ n)
  rw [fresh_in n]
  exact hide_le _ _ (s b o (by rw [hide_ne h1 h2]; exact e))
def Kept (H H' : Hp) : Prop := ∀ b, H b ≠ none → H' b ≠ none
theorem kept_of {H H' : Hp} {p c : Addr} (hp : H' p ≠ none) (hc : H' c ≠ none) (s : Same (hide p c H) (hide p c H')) : Kept H H' := fun b h => by
  by_cases h1 : b = p
  · rw [h1]
    exact hp
  · by_cases h2 : b = c
    · rw [h2]
      exact hc
    · cases e : H b with
      | none => exact absurd e h
      | some o =>
        have q := hide_le _ _ (s b o (by rw [hide_ne h1 h2]; exact e))
        rw [q]
        intro z
        cases z
theorem fresh_sub {H H3 H4 : Hp} {L : Addr} (k : Kept H H3) (hL : H3 L ≠ none) : Same (fresh H3 H4) (hide L L (fresh H H4)) := fun b o e => by
  obtain ⟨n, e⟩ := fresh_some e
  have h1 : b ≠ L := fun z => hL (z ▸ n)
  have h2 : H b = none := by
    cases q : H b with
    | none => rfl
    | some u => exact absurd n (k b (by rw [q]; intro z; cases z))
  rw [hide_ne h1 h1, fresh_in h2]
  exact e
theorem fresh_updL {H H4 : Hp} {L : Addr} {o : HO} : hide L L (fresh H (upd H4 L o)) = hide L L (fresh H H4) := by
  funext b
  by_cases h : b = L
  · rw [h, hide_p, hide_p]
  · rw [hide_ne h h, hide_ne h h]
    unfold fresh
    rw [upd_ne h]
theorem same_hide {p c : Addr} {H H' : Hp} (s : Same H H') (hp : H p = none) (hc : H c = none) : Same H (hide p c H') := fun b o e => by
  rw [hide_ne (ne_of_none e hp) (ne_of_none e hc)]
  exact s b o e
theorem room110 {k : Nat} {A : Around} (r : Room k A) : A.units + 110 < cLine := by
  have := r.un
  omega
theorem good_late : Good 3 (.str "late") := by
  have h : ((PyData.str "late").canLay0 && (PyData.str "late").showable && !(PyData.str "late").hasDict && decide ((PyData.str "late").shown.length ≤ 25)) = true := by decide +kernel
  simp only [Bool.and_eq_true, decide_eq_true_eq, Bool.not_eq_true'] at h
  exact ⟨h.1.1.1, by decide, h.1.1.2, h.1.2, Nat.le_trans h.2 (by decide)⟩
end Vf

set_option Elab.async false
set_option linter.all false
set_option maxRecDepth 100000
namespace Vf
open PySem PySem.Spec PyProof.Rows L2
def top (i : Nat) : Stmt := PySem.Challenge.pw_plateways_k04_texts_of_steps.main.body.getD i (.Pass ⟨0, 0, 0, 0⟩)
abbrev sIsInteger : Stmt := top 5
abbrev sIsNumber : Stmt := top 6
abbrev sIsName : Stmt := top 7
abbrev sIsSequence : Stmt := top 8
abbrev sInvalidStepInit : Stmt := inClass (top 11) 0
abbrev sInvalidTextInit : Stmt := inClass (top 12) 0
abbrev sNumberTold : Stmt := top 16
abbrev sStepInit : Stmt := inClass (top 18) 0
abbrev sStepRead : Stmt := inClass (top 18) 1
abbrev sStepLoss : Stmt := inClass (top 18) 2
abbrev sStepWashed : Stmt := inClass (top 18) 3
abbrev sStepEq : Stmt := inClass (top 18) 4
abbrev sStepStr : Stmt := inClass (top 18) 5
abbrev sArePlaces : Stmt := top 19
abbrev sAreArrows : Stmt := top 20
abbrev sIsArrow : Stmt := top 21
abbrev sStepTold : Stmt := top 22
abbrev sArrowTold : Stmt := top 23
abbrev sDeal : Stmt := top 25
abbrev sDraw : Stmt := top 26
abbrev sPick : Stmt := top 27
abbrev sMixed : Stmt := top 28
abbrev sSpots : Stmt := top 29
abbrev sStage : Stmt := top 30
abbrev sJob : Stmt := top 31
abbrev sStageText : Stmt := top 32
abbrev sJobLines : Stmt := top 33
abbrev sBefore : Stmt := top 34
abbrev sIsTitle : Stmt := top 35
abbrev sIsCost : Stmt := top 36
abbrev sDue : Stmt := top 37
abbrev sHeard : Stmt := top 38
abbrev sBent : Stmt := top 39
abbrev sLaw : Stmt := top 40
end Vf

set_option Elab.async false
set_option linter.all false
set_option maxRecDepth 100000
set_option maxHeartbeats 1000000
/-! the data layer: what values tell (D), slots as data, the heap in two parts: what never changes, and what a slot owns -/
namespace Vf
open PySem PySem.Spec PyProof.Rows L2

/-- a dealer at p: its great numbers' list at c, its stirred number -/
structure DealAt (H : Hp) (p c : Addr) : Prop where
  ex : ∃ (bs : List Int) (st : Int), H p = some (.lst [.ref c, .int st]) ∧ H c = some (.lst (bs.map V.int)) ∧ 0 ≤ st ∧ st < 2147483647 ∧ bs.length ≤ 63
theorem DealAt.keep {H H' : Hp} {p c : Addr} (D : DealAt H p c) (h1 : H' p = H p) (h2 : H' c = H c) : DealAt H' p c := by
  obtain ⟨bs, st, a, b, r⟩ := D
  exact ⟨bs, st, by rw [h1]; exact a, by rw [h2]; exact b, r⟩

inductive D where
  | non | bl (b : Bool) | int (i : Int) | str (s : Str)
  | lst (l : List D) | tup (l : List D)
  | ins (C : Addr) (ns : List Str) (ds : List D)
  | dcK (ks : List Key) (ds : List D) | dcT (ks : List (List Key)) (ds : List D)
  | obj (a : Addr) | scr (ns : List Int) | ty (n : String)
  /-- a tuple of texts of which all is known -/
  | nms (zs : List Str)
  /-- a tuple of keys that was made here -/
  | kt (k : List Key)
  /-- an error that was caught: its record, its dict, its one field -/
  | exc (e e0 : Addr) (f : Str) (d : D)

/-- a tuple, its one object known -/
def NmT (H : Hp) (a : Addr) (xs : List V) : Prop := ∃ o : Obj, o.cls = .type "tuple" ∧ o.dict = none ∧ H a = some (.frz o (.tup xs))
theorem NmT.sq {K : PySem.W.Frag} {H : Hp} {a : Addr} {xs : List V} (h : NmT H a xs) : SqT K H a xs := h.elim fun o h => .inl (.inr ⟨o, h.2.2⟩)
theorem NmT.same {H H' : Hp} {a : Addr} {xs : List V} (s : Same H H') (h : NmT H a xs) : NmT H' a xs := h.elim fun o h => ⟨o, h.1, h.2.1, s _ _ h.2.2⟩
mutual
/-- the value v tells d, by G -/
def Rp (K : PySem.W.Frag) (G : Hp) (v : V) : D → Prop
  | .non => v = .non
  | .bl b => v = .bl b
  | .int i => v = .int i
  | .str s => v = .str s
  | .lst l => ∃ a xs, v = .ref a ∧ G a = some (.lst xs) ∧ RpAll K G xs l
  | .tup l => ∃ a xs, v = .ref a ∧ SqT K G a xs ∧ RpAll K G xs l
  | .ins C ns ds => ∃ a dx us, v = .ref a ∧ G a = some (.ins C dx us) ∧ us.map (·.1) = ns ∧ RpAll K G (us.map (·.2)) ds
  | .dcK ks ds => ∃ a kvs, v = .ref a ∧ G a = some (.dK kvs) ∧ kvs.map (·.1) = ks ∧ RpAll K G (kvs.map (·.2)) ds
  | .dcT ks ds => ∃ a kvs, v = .ref a ∧ G a = some (.dT kvs) ∧ kvs.map (·.1) = ks ∧ RpAll K G (kvs.map (·.2)) ds
  | .obj a => v = .ref a
  | .scr ns => ∃ a, v = .ref a ∧ SqL K G a (ns.map V.int)
  | .ty n => v = .ty n
  | .nms zs => ∃ a, v = .ref a ∧ NmT G a (zs.map V.str)
  | .kt k => ∃ a, v = .ref a ∧ G a = some (.tup (k.map kV))
  | .exc e e0 f d => v = .ref e ∧ ∃ u, G e0 = some (.xd [(f, u)]) ∧ Rp K G u d
def RpAll (K : PySem.W.Frag) (G : Hp) (xs : List V) : List D → Prop
  | [] => xs = []
  | d :: ds => ∃ x r, xs = x :: r ∧ Rp K G x d ∧ RpAll K G r ds
end
section
variable {K : PySem.W.Frag} {G G' H H' : Hp}
theorem same_sqT {a : Addr} {xs : List V} (e : Same H H') (h : SqT K H a xs) : SqT K H' a xs := same_seqT e h
mutual
theorem Rp.mono (s : Same G G') : ∀ {d : D} {v : V}, Rp K G v d → Rp K G' v d
  | .non, _, h => h
  | .bl _, _, h => h
  | .int _, _, h => h
  | .str _, _, h => h
  | .lst l, v, h => by
    unfold Rp at h ⊢
    obtain ⟨a, xs, e, q, r⟩ := h
    exact ⟨a, xs, e, s _ _ q, RpAll.mono s r⟩
  | .tup l, v, h => by
    unfold Rp at h ⊢
    obtain ⟨a, xs, e, q, r⟩ := h
    exact ⟨a, xs, e, same_sqT s q, RpAll.mono s r⟩
  | .ins C ns ds, v, h => by
    unfold Rp at h ⊢
    obtain ⟨a, dx, us, e, q, n, r⟩ := h
    exact ⟨a, dx, us, e, s _ _ q, n, RpAll.mono s r⟩
  | .dcK ks ds, v, h => by
    unfold Rp at h ⊢
    obtain ⟨a, kvs, e, q, n, r⟩ := h
    exact ⟨a, kvs, e, s _ _ q, n, RpAll.mono s r⟩
  | .dcT ks ds, v, h => by
    unfold Rp at h ⊢
    obtain ⟨a, kvs, e, q, n, r⟩ := h
    exact ⟨a, kvs, e, s _ _ q, n, RpAll.mono s r⟩
  | .obj _, _, h => h
  | .scr ns, v, h => by
    unfold Rp at h ⊢
    obtain ⟨a, e, q⟩ := h
    exact ⟨a, e, s.seq q⟩
  | .ty _, _, h => h
  | .nms zs, v, h => by
    unfold Rp at h ⊢
    obtain ⟨a, e, q⟩ := h
    exact ⟨a, e, q.same s⟩
  | .kt k, v, h => by
    unfold Rp at h ⊢
    obtain ⟨a, e, q⟩ := h
    exact ⟨a, e, s _ _ q⟩
  | .exc e e0 f d, v, h => by
    unfold Rp at h ⊢
    obtain ⟨a, u, q, r⟩ := h
    exact ⟨a, u, s _ _ q, Rp.mono s r⟩
theorem RpAll.mono (s : Same G G') : ∀ {ds : List D} {xs : List V}, RpAll K G xs ds → RpAll K G' xs ds
  | [], _, h => h
  | d :: ds, xs, h => by
    unfold RpAll at h ⊢
    obtain ⟨x, r, e, q, t⟩ := h
    exact ⟨x, r, e, Rp.mono s q, RpAll.mono s t⟩
end
theorem RpAll.nil : RpAll K G [] [] := rfl
theorem RpAll.cons {x : V} {d : D} {xs : List V} {ds : List D} (h : Rp K G x d) (t : RpAll K G xs ds) : RpAll K G (x :: xs) (d :: ds) := ⟨x, xs, rfl, h, t⟩
theorem RpAll.len : ∀ {ds : List D} {xs : List V}, RpAll K G xs ds → xs.length = ds.length
  | [], _, h => by
    cases (show _ = [] from h)
    rfl
  | d :: ds, _, h => by
    obtain ⟨x, r, rfl, _, t⟩ := h
    exact congrArg (· + 1) (RpAll.len t)
theorem RpAll.at : ∀ {ds : List D} {xs : List V} {i : Nat} {d : D}, RpAll K G xs ds → ds[i]? = some d → ∃ x, xs[i]? = some x ∧ Rp K G x d
  | [], _, _, _, _, e => by cases e
  | d :: ds, _, 0, _, h, e => by
    obtain ⟨x, r, rfl, q, _⟩ := h
    cases e
    exact ⟨x, rfl, q⟩
  | d :: ds, _, i + 1, _, h, e => by
    obtain ⟨x, r, rfl, _, t⟩ := h
    exact RpAll.at (i := i) t e
theorem RpAll.at' : ∀ {ds : List D} {xs : List V} {i : Nat} {x : V}, RpAll K G xs ds → xs[i]? = some x → ∃ d, ds[i]? = some d ∧ Rp K G x d
  | [], _, _, _, h, e => by
    cases (show _ = [] from h)
    cases e
  | d :: ds, _, 0, _, h, e => by
    obtain ⟨x, r, rfl, q, _⟩ := h
    cases e
    exact ⟨d, rfl, q⟩
  | d :: ds, _, i + 1, _, h, e => by
    obtain ⟨x, r, rfl, _, t⟩ := h
    exact RpAll.at' (i := i) t e
theorem RpAll.app : ∀ {ds es : List D} {xs ys : List V}, RpAll K G xs ds → RpAll K G ys es → RpAll K G (xs ++ ys) (ds ++ es)
  | [], _, _, _, h, h' => by
    cases (show _ = [] from h)
    exact h'
  | d :: ds, _, _, _, h, h' => by
    obtain ⟨x, r, rfl, q, t⟩ := h
    exact RpAll.cons q (RpAll.app t h')
theorem RpAll.snoc {ds : List D} {xs : List V} {x : V} {d : D} (h : RpAll K G xs ds) (q : Rp K G x d) : RpAll K G (xs ++ [x]) (ds ++ [d]) := h.app (RpAll.cons q rfl)
theorem RpAll.take : ∀ {ds : List D} {xs : List V} (n : Nat), RpAll K G xs ds → RpAll K G (xs.take n) (ds.take n)
  | [], _, n, h => by
    cases (show _ = [] from h)
    rw [List.take_nil, List.take_nil]
    rfl
  | d :: ds, _, 0, h => rfl
  | d :: ds, _, n + 1, h => by
    obtain ⟨x, r, rfl, q, t⟩ := h
    exact RpAll.cons q (RpAll.take n t)
theorem RpAll.drop : ∀ {ds : List D} {xs : List V} (n : Nat), RpAll K G xs ds → RpAll K G (xs.drop n) (ds.drop n)
  | [], _, n, h => by
    cases (show _ = [] from h)
    rw [List.drop_nil, List.drop_nil]
    rfl
  | d :: ds, _, 0, h => h
  | d :: ds, _, n + 1, h => by
    obtain ⟨x, r, rfl, q, t⟩ := h
    exact RpAll.drop n t
theorem RpAll.rev {ds : List D} : ∀ {xs : List V}, RpAll K G xs ds → RpAll K G xs.reverse ds.reverse := by
  induction ds with
  | nil =>
    intro xs h
    cases (show _ = [] from h)
    rfl
  | cons d ds ih =>
    intro xs h
    obtain ⟨x, r, rfl, q, t⟩ := h
    rw [List.reverse_cons, List.reverse_cons]
    exact (ih t).snoc q
theorem RpAll.perm {ds : List D} {xs : List V} (h : RpAll K G xs ds) : ∀ {ys : List V}, ys.Perm xs → ∃ es, es.Perm ds ∧ RpAll K G ys es := by
  intro ys p
  have z : ∃ zs : List (V × D), zs.map (·.1) = xs ∧ zs.map (·.2) = ds ∧ ∀ q ∈ zs, Rp K G q.1 q.2 := by
    clear p
    induction ds generalizing xs with
    | nil =>
      cases (show _ = [] from h)
      exact ⟨[], rfl, rfl, fun _ z => nomatch z⟩
    | cons d ds ih =>
      obtain ⟨x, r, rfl, q, t⟩ := h
      obtain ⟨zs, e1, e2, e3⟩ := ih t
      refine ⟨(x, d) :: zs, by rw [List.map_cons, e1], by rw [List.map_cons, e2], fun q' hq => ?_⟩
      rcases List.mem_cons.mp hq with rfl | hq
      · exact q
      · exact e3 q' hq
  obtain ⟨zs, rfl, rfl, hz⟩ := z
  have pm : ∀ (ys : List V) (l : List (V × D)), ys.Perm (l.map (·.1)) → ∃ ws : List (V × D), ws.Perm l ∧ ws.map (·.1) = ys := by
    intro ys
    induction ys with
    | nil =>
      intro l h
      have e := List.map_eq_nil_iff.mp (List.Perm.eq_nil h.symm)
      subst e
      exact ⟨[], .nil, rfl⟩
    | cons y ys ih =>
      intro l h
      obtain ⟨x, hx, rfl⟩ := List.mem_map.mp (h.mem_iff.mp List.mem_cons_self)
      obtain ⟨s, t, rfl⟩ := List.append_of_mem hx
      have q : (x.1 :: ys).Perm (x.1 :: (s ++ t).map (·.1)) := by
        refine h.trans ?_
        rw [List.map_append, List.map_cons, List.map_append]
        exact List.perm_middle
      obtain ⟨zs, h1, h2⟩ := ih _ q.cons_inv
      exact ⟨x :: zs, (List.Perm.cons x h1).trans List.perm_middle.symm, by rw [List.map_cons, h2]⟩
  obtain ⟨ws, p1, rfl⟩ := pm ys zs p
  refine ⟨ws.map (·.2), p1.map _, ?_⟩
  have hw : ∀ q ∈ ws, Rp K G q.1 q.2 := fun q hq => hz q (p1.mem_iff.mp hq)
  clear p1 p hz
  induction ws with
  | nil => rfl
  | cons q ws ih => exact RpAll.cons (hw q List.mem_cons_self) (ih fun q' h' => hw q' (List.mem_cons_of_mem _ h'))
end

/-! ### a step that only makes new things -/
structure Ext (H G H' G' : Hp) : Prop where
  h : Same H H'
  g : Same G G'
  gh : Same G' H'
  nw : ∀ a, G' a ≠ none → G a ≠ none ∨ H a = none
theorem Ext.refl {H G : Hp} (s : Same G H) : Ext H G H G := ⟨Same.refl _, Same.refl _, s, fun _ h => .inl h⟩
theorem Ext.tmp {H H' G : Hp} (s : Same G H) (h : Same H H') : Ext H G H' G := ⟨h, Same.refl _, s.trans h, fun _ h => .inl h⟩
theorem Ext.trans {H G H1 G1 H2 G2 : Hp} (a : Ext H G H1 G1) (b : Ext H1 G1 H2 G2) : Ext H G H2 G2 :=
  ⟨a.h.trans b.h, a.g.trans b.g, b.gh, fun x h => (b.nw x h).elim (a.nw x) fun z => .inr (a.h.free z)⟩
theorem Ext.new {H G : Hp} {a : Addr} {o : HO} (s : Same G H) (n : H a = none) : Ext H G (upd H a o) (upd G a o) := by
  refine ⟨same_new n, same_new (s.free n), fun b u e => ?_, fun b h => ?_⟩
  · by_cases hb : b = a
    · subst hb
      rw [upd_same] at e ⊢
      exact e
    · rw [upd_ne hb] at e ⊢
      exact s b u e
  · by_cases hb : b = a
    · subst hb
      exact .inr n
    · rw [upd_ne hb] at h
      exact .inl h

/-! ### slots -/
inductive Sl where
  | no
  | val (d : D)
  | own (l : List D)
  | ownK (ks : List Key) (ds : List D)
  | ownT (ks : List (List Key)) (ds : List D)
  | ownI (x dx C : Addr) (ns : List Str) (ds : List D)
  | deal (p c : Addr)
abbrev Ev := List Sl
/-- where a call began: its heap, what it knew to stay, what it may change -/
structure Ct where
  H0 : Hp
  G0 : Hp
  hid : Addr → Prop
def SlOk (K : PySem.W.Frag) (H G : Hp) (o : Option V) : Sl → List Addr → Prop
  | .no, fp => fp = []
  | .val d, fp => fp = [] ∧ ∃ v, o = some v ∧ Rp K G v d
  | .own l, fp => ∃ a xs, fp = [a] ∧ o = some (.ref a) ∧ H a = some (.lst xs) ∧ RpAll K G xs l
  | .ownK ks ds, fp => ∃ a kvs, fp = [a] ∧ o = some (.ref a) ∧ H a = some (.dK kvs) ∧ kvs.map (·.1) = ks ∧ RpAll K G (kvs.map (·.2)) ds
  | .ownT ks ds, fp => ∃ a kvs, fp = [a] ∧ o = some (.ref a) ∧ H a = some (.dT kvs) ∧ kvs.map (·.1) = ks ∧ RpAll K G (kvs.map (·.2)) ds
  | .ownI x dx C ns ds, fp => ∃ us, fp = [x] ∧ o = some (.ref x) ∧ H x = some (.ins C dx us) ∧ us.map (·.1) = ns ∧ RpAll K G (us.map (·.2)) ds
  | .deal p c, fp => fp = [p, c] ∧ o = some (.ref p) ∧ DealAt H p c
theorem SlOk.mono {K : PySem.W.Frag} {H G H' G' : Hp} {o : Option V} {s : Sl} {fp : List Addr} (h : ∀ a ∈ fp, H' a = H a) (g : Same G G') (x : SlOk K H G o s fp) : SlOk K H' G' o s fp := by
  cases s with
  | no => exact x
  | val d =>
    obtain ⟨e, v, ev, r⟩ := x
    exact ⟨e, v, ev, r.mono g⟩
  | own l =>
    obtain ⟨a, xs, rfl, eo, eh, r⟩ := x
    exact ⟨a, xs, rfl, eo, (h a (by simp)).trans eh, r.mono g⟩
  | ownK ks ds =>
    obtain ⟨a, xs, rfl, eo, eh, n, r⟩ := x
    exact ⟨a, xs, rfl, eo, (h a (by simp)).trans eh, n, r.mono g⟩
  | ownT ks ds =>
    obtain ⟨a, xs, rfl, eo, eh, n, r⟩ := x
    exact ⟨a, xs, rfl, eo, (h a (by simp)).trans eh, n, r.mono g⟩
  | ownI a dx C ns ds =>
    obtain ⟨us, rfl, eo, eh, n, r⟩ := x
    exact ⟨us, rfl, eo, (h a (by simp)).trans eh, n, r.mono g⟩
  | deal p c =>
    obtain ⟨rfl, eo, d⟩ := x
    exact ⟨rfl, eo, d.keep (h p (by simp)) (h c (by simp))⟩
theorem SlOk.there {K : PySem.W.Frag} {H G : Hp} {o : Option V} {s : Sl} {fp : List Addr} (x : SlOk K H G o s fp) : ∀ a ∈ fp, H a ≠ none := by
  intro b hb
  cases s with
  | no =>
    cases (show _ = [] from x)
    cases hb
  | val d =>
    cases x.1
    cases hb
  | own l =>
    obtain ⟨a, xs, rfl, eo, eh, r⟩ := x
    rw [List.mem_singleton.mp hb, eh]
    exact fun z => nomatch z
  | ownK ks ds =>
    obtain ⟨a, xs, rfl, eo, eh, n, r⟩ := x
    rw [List.mem_singleton.mp hb, eh]
    exact fun z => nomatch z
  | ownT ks ds =>
    obtain ⟨a, xs, rfl, eo, eh, n, r⟩ := x
    rw [List.mem_singleton.mp hb, eh]
    exact fun z => nomatch z
  | ownI a dx C ns ds =>
    obtain ⟨us, rfl, eo, eh, n, r⟩ := x
    rw [List.mem_singleton.mp hb, eh]
    exact fun z => nomatch z
  | deal p c =>
    obtain ⟨rfl, eo, bs, st, h1, h2, _⟩ := x
    rcases List.mem_cons.mp hb with rfl | hb
    · rw [h1]
      exact fun z => nomatch z
    · rw [List.mem_singleton.mp hb, h2]
      exact fun z => nomatch z
/-- the slots σ and the heap H tell ρ; G: what of H never changes -/
structure Rep (K : PySem.W.Frag) (c : Ct) (σ : L2.St) (H G : Hp) (ρ : Ev) : Prop where
  len : ρ.length = σ.length
  gh : Same G H
  g0 : Same c.G0 G
  fr : ∀ a o, ¬ c.hid a → c.H0 a = some o → H a = some o
  hk : ∀ a, c.hid a → H a ≠ none
  nw : ∀ a, G a ≠ none → c.G0 a ≠ none ∨ c.H0 a = none
  h0 : ∀ a, H a = none → c.H0 a = none
  sl : ∃ fp : Nat → List Addr, (∀ i s, ρ[i]? = some s → SlOk K H G (σ[i]?.join) s (fp i)) ∧ (∀ i a, i < ρ.length → a ∈ fp i → G a = none ∧ (c.H0 a = none ∨ (c.hid a ∧ ∃ p q, ρ[i]? = some (.deal p q)))) ∧ ∀ i j a, i < ρ.length → j < ρ.length → a ∈ fp i → a ∈ fp j → i = j
section
variable {K : PySem.W.Frag} {c : Ct} {σ : L2.St} {H G H' G' : Hp} {ρ : Ev}
theorem Rep.ext (r : Rep K c σ H G ρ) (e : Ext H G H' G') : Rep K c σ H' G' ρ := by
  obtain ⟨fp, s1, s2, s3⟩ := r.sl
  refine ⟨r.len, e.gh, r.g0.trans e.g, fun a o n h => e.h _ _ (r.fr a o n h), fun a h => ?_, fun a h => (e.nw a h).elim (r.nw a) fun z => .inr (r.h0 a z), fun a h => r.h0 a (e.h.free h), fp, fun i s hi => ?_, fun i a hi ha => ⟨?_, (s2 i a hi ha).2⟩, s3⟩
  · cases q : H a with
    | none => exact absurd q (r.hk a h)
    | some o =>
      rw [e.h _ _ q]
      exact fun z => nomatch z
  · have hx := s1 i s hi
    refine hx.mono (fun a ha => ?_) e.g
    cases q : H a with
    | none => exact absurd q (hx.there a ha)
    | some o => exact e.h _ _ q
  · have hi' : ρ[i]? = some ρ[i] := List.getElem?_eq_getElem hi
    cases q : G' a with
    | none => rfl
    | some o =>
      rcases e.nw a (by rw [q]; exact fun z => nomatch z) with z | z
      · exact absurd (s2 i a hi ha).1 z
      · exact absurd z ((s1 i _ hi').there a ha)
/-- a slot that holds data -/
theorem Rep.val {i : Nat} {d : D} (r : Rep K c σ H G ρ) (h : ρ[i]? = some (.val d)) : ∃ v, σ[i]? = some (some v) ∧ Rp K G v d := by
  obtain ⟨fp, s1, s2, s3⟩ := r.sl
  obtain ⟨_, v, e, q⟩ := s1 i _ h
  refine ⟨v, ?_, q⟩
  cases z : σ[i]? with
  | none =>
    rw [z] at e
    cases e
  | some o =>
    rw [z] at e
    exact congrArg some e
theorem get_set {α : Type} {l : List α} {i j : Nat} {x y : α} (h : (l.set i x)[j]? = some y) : (j = i ∧ i < l.length ∧ y = x) ∨ (j ≠ i ∧ l[j]? = some y) := by
  by_cases e : i = j
  · subst e
    by_cases hl : i < l.length
    · rw [List.getElem?_set_self hl] at h
      exact .inl ⟨rfl, hl, (Option.some.inj h).symm⟩
    · rw [List.getElem?_eq_none (by rw [List.length_set]; omega)] at h
      cases h
  · rw [List.getElem?_set_ne e] at h
    exact .inr ⟨fun z => e z.symm, h⟩
/-- a slot is set to something whose footprint is apart -/
theorem Rep.put {i : Nat} {s : Sl} {v : Option V} {fpi : List Addr} (r : Rep K c σ H G ρ) (ok : SlOk K H G v s fpi) (f1 : ∀ a ∈ fpi, G a = none ∧ (c.H0 a = none ∨ (c.hid a ∧ ∃ p q, s = .deal p q)))
    (f2 : ∀ fp : Nat → List Addr, (∀ i s, ρ[i]? = some s → SlOk K H G (σ[i]?.join) s (fp i)) → ∀ j a, j < ρ.length → j ≠ i → a ∈ fp j → a ∉ fpi) : Rep K c (σ.set i v) H G (ρ.set i s) := by
  obtain ⟨fp, s1, s2, s3⟩ := r.sl
  have f2 := f2 fp s1
  refine ⟨by rw [List.length_set, List.length_set]; exact r.len, r.gh, r.g0, r.fr, r.hk, r.nw, r.h0, fun j => if j = i then fpi else fp j, fun j t hj => ?_, fun j a hj ha => ?_, fun j k a hj hk ha hb => ?_⟩
  · dsimp only
    rcases get_set hj with ⟨rfl, hl, rfl⟩ | ⟨hn, hj⟩
    · rw [if_pos rfl, List.getElem?_set_self (by rw [← r.len]; exact hl)]
      exact ok
    · rw [if_neg hn, List.getElem?_set_ne fun z => hn z.symm]
      exact s1 j t hj
  · rw [List.length_set] at hj
    dsimp only at ha
    by_cases hn : j = i
    · rw [if_pos hn] at ha
      obtain ⟨g, h⟩ := f1 a ha
      refine ⟨g, h.imp id fun ⟨h1, p, q, h2⟩ => ⟨h1, p, q, ?_⟩⟩
      rw [hn, List.getElem?_set_self (by rw [← hn]; exact hj), h2]
    · rw [if_neg hn] at ha
      rw [List.getElem?_set_ne fun z => hn z.symm]
      exact s2 j a hj ha
  · rw [List.length_set] at hj hk
    dsimp only at ha hb
    by_cases h1 : j = i
    · by_cases h2 : k = i
      · rw [h1, h2]
      · rw [if_pos h1] at ha
        rw [if_neg h2] at hb
        exact absurd ha (f2 k a hk h2 hb)
    · by_cases h2 : k = i
      · rw [if_neg h1] at ha
        rw [if_pos h2] at hb
        exact absurd hb (f2 j a hj h1 ha)
      · rw [if_neg h1] at ha
        rw [if_neg h2] at hb
        exact s3 j k a hj hk ha hb
theorem Rep.putVal {i : Nat} {d : D} {v : V} (r : Rep K c σ H G ρ) (h : Rp K G v d) : Rep K c (σ.set i (some v)) H G (ρ.set i (.val d)) :=
  r.put (fpi := []) ⟨rfl, v, rfl, h⟩ (fun _ z => nomatch z) fun _ _ _ _ _ _ _ z => nomatch z
theorem Rep.putNo {i : Nat} {v : Option V} (r : Rep K c σ H G ρ) : Rep K c (σ.set i v) H G (ρ.set i .no) :=
  r.put (fpi := []) rfl (fun _ z => nomatch z) fun _ _ _ _ _ _ _ z => nomatch z
/-- a new thing, of which the data know nothing -/
theorem Rep.lay (r : Rep K c σ H G ρ) {a : Addr} {o : HO} (n : H a = none) : Rep K c σ (upd H a o) G ρ := r.ext (Ext.tmp r.gh (same_new n))
theorem Rep.layG (r : Rep K c σ H G ρ) {a : Addr} {o : HO} (n : H a = none) : Rep K c σ (upd H a o) (upd G a o) ρ := r.ext (Ext.new r.gh n)
/-- a slot is set to a new thing that it owns; the thing was laid in H1, which told the slots -/
theorem Rep.putOwn {i : Nat} {s : Sl} {a : Addr} {o : HO} (r : Rep K c σ H G ρ) (n : H a = none) (nd : ∀ p q, s ≠ .deal p q) (ok : SlOk K (upd H a o) G (some (.ref a)) s [a]) : Rep K c (σ.set i (some (.ref a))) (upd H a o) G (ρ.set i s) := by
  refine (r.lay (o := o) n).put ok (fun b hb => ?_) fun fp s1 j b hj hn hb hm => ?_
  · rw [List.mem_singleton.mp hb]
    exact ⟨r.gh.free n, .inl (r.h0 a n)⟩
  · rw [List.mem_singleton.mp hm] at hb
    obtain ⟨fp', t1, t2, t3⟩ := r.sl
    have q' := t1 j _ (List.getElem?_eq_getElem hj)
    -- the footprints of both tellings are the same where the slot is the same
    have same : fp j = fp' j := by
      have q := s1 j _ (List.getElem?_eq_getElem hj)
      generalize ρ[j] = t at q q'
      cases t with
      | no => exact (show fp j = [] from q).trans (show fp' j = [] from q').symm
      | val d => exact q.1.trans q'.1.symm
      | own l =>
        obtain ⟨x, xs, e, eo, _⟩ := q
        obtain ⟨y, ys, e', eo', _⟩ := q'
        rw [eo] at eo'
        rw [e, e', V.ref.inj (Option.some.inj eo')]
      | ownK ks ds =>
        obtain ⟨x, xs, e, eo, _⟩ := q
        obtain ⟨y, ys, e', eo', _⟩ := q'
        rw [eo] at eo'
        rw [e, e', V.ref.inj (Option.some.inj eo')]
      | ownT ks ds =>
        obtain ⟨x, xs, e, eo, _⟩ := q
        obtain ⟨y, ys, e', eo', _⟩ := q'
        rw [eo] at eo'
        rw [e, e', V.ref.inj (Option.some.inj eo')]
      | ownI x dx C ns ds =>
        obtain ⟨us, e, eo, _⟩ := q
        obtain ⟨ys, e', eo', _⟩ := q'
        rw [e, e']
      | deal p c => exact q.1.trans q'.1.symm
    rw [same] at hb
    exact q'.there a hb n
/-- what a slot owns: how it is written, and given away -/
theorem Rep.own1 {i : Nat} {s : Sl} {a : Addr} (r : Rep K c σ H G ρ) (h : ρ[i]? = some s) (hs : ∀ fp, SlOk K H G (σ[i]?.join) s fp → fp = [a] ∧ σ[i]?.join = some (.ref a)) (nd : ∀ p q, s ≠ .deal p q) :
    G a = none ∧ c.H0 a = none ∧ σ[i]? = some (some (.ref a)) ∧ (∀ o s', SlOk K (upd H a o) G (some (.ref a)) s' [a] → Rep K c σ (upd H a o) G (ρ.set i s')) ∧
    (∀ o d, H a = some o → Rp K (upd G a o) (.ref a) d → Rep K c σ H (upd G a o) (ρ.set i (.val d)) ∧ Same G (upd G a o)) := by
  obtain ⟨fp, s1, s2, s3⟩ := r.sl
  obtain ⟨ef, ev⟩ := hs _ (s1 i _ h)
  have hi := lt_of_at h
  have ha : a ∈ fp i := by rw [ef]; simp
  obtain ⟨ga, ha0⟩ := s2 i a hi ha
  have h0 : c.H0 a = none := by
    rcases ha0 with z | ⟨_, p, q, z⟩
    · exact z
    · rw [h] at z
      exact absurd (Option.some.inj z) (nd p q)
  have eσ : σ[i]? = some (some (.ref a)) := by
    cases z : σ[i]? with
    | none =>
      rw [z] at ev
      cases ev
    | some o =>
      rw [z] at ev
      exact congrArg some ev
  refine ⟨ga, h0, eσ, fun o s' ok => ?_, fun o d eo rp => ?_⟩
  · refine ⟨by rw [List.length_set]; exact r.len, fun b u eb => ?_, r.g0, fun b o' nb hb => ?_, fun b hb => ?_, r.nw, fun b hb => ?_, fp, fun j t hj => ?_, fun j b hj hb => ?_, fun j k b hj hk => s3 j k b (by rw [List.length_set] at hj; exact hj) (by rw [List.length_set] at hk; exact hk)⟩
    · rw [upd_ne fun z => by rw [z, ga] at eb; cases eb]
      exact r.gh b u eb
    · rw [upd_ne fun z => by rw [z, h0] at hb; cases hb]
      exact r.fr b o' nb hb
    · by_cases z : b = a
      · rw [z, upd_same]
        exact fun z => nomatch z
      · rw [upd_ne z]
        exact r.hk b hb
    · by_cases z : b = a
      · rw [z, upd_same] at hb
        cases hb
      · rw [upd_ne z] at hb
        exact r.h0 b hb
    · rcases get_set hj with ⟨rfl, hl, rfl⟩ | ⟨hn, hj⟩
      · rw [eσ, ef]
        exact ok
      · have hj' := lt_of_at hj
        refine (s1 j t hj).mono (fun b hb => upd_ne ?_) (Same.refl _)
        rintro rfl
        exact hn (s3 j i b hj' hi hb ha)
    · rw [List.length_set] at hj
      obtain ⟨q1, q2⟩ := s2 j b hj hb
      refine ⟨q1, ?_⟩
      by_cases hn : j = i
      · rw [hn, ef] at hb
        rw [List.mem_singleton.mp hb]
        exact .inl h0
      · rw [List.getElem?_set_ne fun z => hn z.symm]
        exact q2
  · have sg : Same G (upd G a o) := same_new ga
    refine ⟨⟨by rw [List.length_set]; exact r.len, fun b u eb => ?_, r.g0.trans sg, r.fr, r.hk, fun b hb => ?_, r.h0, fun j => if j = i then [] else fp j, fun j t hj => ?_, fun j b hj hb => ?_, fun j k b hj hk hb hb' => ?_⟩, sg⟩
    · by_cases z : b = a
      · rw [z, upd_same] at eb
        cases eb
        rw [z]
        exact eo
      · rw [upd_ne z] at eb
        exact r.gh b u eb
    · by_cases z : b = a
      · rw [z]
        exact .inr h0
      · rw [upd_ne z] at hb
        exact r.nw b hb
    · rcases get_set hj with ⟨rfl, hl, rfl⟩ | ⟨hn, hj⟩
      · dsimp only
        rw [if_pos rfl, eσ]
        exact ⟨rfl, _, rfl, rp⟩
      · dsimp only
        rw [if_neg hn]
        exact (s1 j t hj).mono (fun _ _ => rfl) sg
    · rw [List.length_set] at hj
      dsimp only at hb
      by_cases hn : j = i
      · rw [if_pos hn] at hb
        cases hb
      · rw [if_neg hn] at hb
        rw [List.getElem?_set_ne fun z => hn z.symm]
        refine ⟨?_, (s2 j b hj hb).2⟩
        rw [upd_ne]
        · exact (s2 j b hj hb).1
        · rintro rfl
          exact hn (s3 j i b hj hi hb ha)
    · rw [List.length_set] at hj hk
      dsimp only at hb hb'
      by_cases h1 : j = i
      · rw [if_pos h1] at hb
        cases hb
      · by_cases h2 : k = i
        · rw [if_pos h2] at hb'
          cases hb'
        · rw [if_neg h1] at hb
          rw [if_neg h2] at hb'
          exact s3 j k b hj hk hb hb'
theorem Rep.ownL {i : Nat} {l : List D} (r : Rep K c σ H G ρ) (h : ρ[i]? = some (.own l)) : ∃ a xs, σ[i]? = some (some (.ref a)) ∧ H a = some (.lst xs) ∧ RpAll K G xs l ∧ G a = none ∧
    (∀ ys m, RpAll K G ys m → Rep K c σ (upd H a (.lst ys)) G (ρ.set i (.own m))) ∧ Rep K c σ H (upd G a (.lst xs)) (ρ.set i (.val (.lst l))) ∧ Same G (upd G a (.lst xs)) := by
  obtain ⟨fp, s1, _⟩ := r.sl
  obtain ⟨a, xs, ef, e, eh, ra⟩ := s1 i _ h
  obtain ⟨q1, q2, q3, q4, q5⟩ := r.own1 (a := a) h (fun fp' ⟨b, ys, e1, e2, _⟩ => by
    rw [e] at e2
    rw [e1, e, V.ref.inj (Option.some.inj e2)]
    exact ⟨rfl, rfl⟩) (fun _ _ z => nomatch z)
  have sg : Same G (upd G a (.lst xs)) := same_new q1
  exact ⟨a, xs, q3, eh, ra, q1, fun ys m rm => q4 _ _ ⟨a, ys, rfl, rfl, upd_same, rm⟩, (q5 _ (.lst l) eh ⟨a, xs, rfl, upd_same, ra.mono sg⟩).1, sg⟩
theorem Rep.ownDK {i : Nat} {ks : List Key} {ds : List D} (r : Rep K c σ H G ρ) (h : ρ[i]? = some (.ownK ks ds)) : ∃ a kvs, σ[i]? = some (some (.ref a)) ∧ H a = some (.dK kvs) ∧ kvs.map (·.1) = ks ∧ RpAll K G (kvs.map (·.2)) ds ∧ G a = none ∧
    (∀ kvs' ks' ds', kvs'.map (·.1) = ks' → RpAll K G (kvs'.map (·.2)) ds' → Rep K c σ (upd H a (.dK kvs')) G (ρ.set i (.ownK ks' ds'))) ∧ Rep K c σ H (upd G a (.dK kvs)) (ρ.set i (.val (.dcK ks ds))) ∧ Same G (upd G a (.dK kvs)) := by
  obtain ⟨fp, s1, _⟩ := r.sl
  obtain ⟨a, xs, ef, e, eh, en, ra⟩ := s1 i _ h
  obtain ⟨q1, q2, q3, q4, q5⟩ := r.own1 (a := a) h (fun fp' ⟨b, ys, e1, e2, _⟩ => by
    rw [e] at e2
    rw [e1, e, V.ref.inj (Option.some.inj e2)]
    exact ⟨rfl, rfl⟩) (fun _ _ z => nomatch z)
  have sg : Same G (upd G a (.dK xs)) := same_new q1
  exact ⟨a, xs, q3, eh, en, ra, q1, fun ys m ds' n rm => q4 _ _ ⟨a, ys, rfl, rfl, upd_same, n, rm⟩, (q5 _ (.dcK ks ds) eh ⟨a, xs, rfl, upd_same, en, ra.mono sg⟩).1, sg⟩
theorem Rep.ownDT {i : Nat} {ks : List (List Key)} {ds : List D} (r : Rep K c σ H G ρ) (h : ρ[i]? = some (.ownT ks ds)) : ∃ a kvs, σ[i]? = some (some (.ref a)) ∧ H a = some (.dT kvs) ∧ kvs.map (·.1) = ks ∧ RpAll K G (kvs.map (·.2)) ds ∧ G a = none ∧
    (∀ kvs' ks' ds', kvs'.map (·.1) = ks' → RpAll K G (kvs'.map (·.2)) ds' → Rep K c σ (upd H a (.dT kvs')) G (ρ.set i (.ownT ks' ds'))) ∧ Rep K c σ H (upd G a (.dT kvs)) (ρ.set i (.val (.dcT ks ds))) ∧ Same G (upd G a (.dT kvs)) := by
  obtain ⟨fp, s1, _⟩ := r.sl
  obtain ⟨a, xs, ef, e, eh, en, ra⟩ := s1 i _ h
  obtain ⟨q1, q2, q3, q4, q5⟩ := r.own1 (a := a) h (fun fp' ⟨b, ys, e1, e2, _⟩ => by
    rw [e] at e2
    rw [e1, e, V.ref.inj (Option.some.inj e2)]
    exact ⟨rfl, rfl⟩) (fun _ _ z => nomatch z)
  have sg : Same G (upd G a (.dT xs)) := same_new q1
  exact ⟨a, xs, q3, eh, en, ra, q1, fun ys m ds' n rm => q4 _ _ ⟨a, ys, rfl, rfl, upd_same, n, rm⟩, (q5 _ (.dcT ks ds) eh ⟨a, xs, rfl, upd_same, en, ra.mono sg⟩).1, sg⟩
theorem Rep.ownIn {i : Nat} {x dx C : Addr} {ns : List Str} {ds : List D} (r : Rep K c σ H G ρ) (h : ρ[i]? = some (.ownI x dx C ns ds)) : ∃ us, σ[i]? = some (some (.ref x)) ∧ H x = some (.ins C dx us) ∧ us.map (·.1) = ns ∧ RpAll K G (us.map (·.2)) ds ∧ G x = none ∧
    (∀ us' ns' ds', us'.map (·.1) = ns' → RpAll K G (us'.map (·.2)) ds' → Rep K c σ (upd H x (.ins C dx us')) G (ρ.set i (.ownI x dx C ns' ds'))) := by
  obtain ⟨fp, s1, _⟩ := r.sl
  obtain ⟨xs, ef, e, eh, en, ra⟩ := s1 i _ h
  obtain ⟨q1, q2, q3, q4, q5⟩ := r.own1 (a := x) h (fun fp' ⟨ys, e1, e2, _⟩ => ⟨e1, e2⟩) (fun _ _ z => nomatch z)
  exact ⟨xs, q3, eh, en, ra, q1, fun ys m ds' n rm => q4 _ _ ⟨ys, rfl, rfl, upd_same, n, rm⟩⟩
end
end Vf

set_option Elab.async false
set_option linter.all false
set_option maxRecDepth 100000
set_option maxHeartbeats 4000000
/-! repr of data: a def whose frames stand under no repr (no guard) -/
namespace Vf
open PySem PySem.Spec PySem.Calls PyProof.Rows L2

/-! ### repr -/
section
variable {X : Cx}
def rRepr (K : PySem.W.Frag) : List V → Hp → VK → Prop := fun xs H Q => ∃ (v : V) (d : PyData), xs = [v] ∧ Dp K H v d ∧ d.showable = true ∧ d.hasDict = false ∧ d.depth ≤ 100 ∧ d.shown.length ≤ sizeLine ∧ Q (.str d.shown) H
theorem cr_repr (hg : X.A.guards = some []) (hu : X.A.units + 110 < cLine) : CallR X (.builtin "repr") (rRepr X.K) := by
  intro pins s σ H xs us Q I r h
  obtain ⟨v, d, rfl, hd, hs, hn, hz, hl, q⟩ := h
  obtain ⟨u, rfl, rx⟩ := vals1 r
  obtain ⟨as, hr⟩ := Dp.reads I d v u hd rx
  have big : ∀ a : Addr, u = .ref a → wpAny (model X.prog X.w) X.A (call (.builtin "repr") [u]) (EP X pins σ Q) X.xe s := by
    rintro a rfl
    exact repr_of_reads' hr hs (PyData.noDict_hsm hn) hg (by omega) (fun _ _ e => e) (fun h' w tk hk => ⟨.str _, H, I.kept (t' := tk) hk, ⟨w, rfl⟩, q⟩) hl
  cases hd with
  | non =>
    cases rx
    exact PySem.P.repr_of_none ⟨.str _, H, I.tok _, ⟨_, rfl⟩, q⟩
  | bl b =>
    cases rx
    exact PySem.P.repr_of_bool ⟨.str _, H, I.tok _, ⟨_, rfl⟩, q⟩
  | int i =>
    obtain ⟨t, rfl⟩ := rx
    exact PySem.P.repr_of_int (by simpa [PyData.showable] using hs) ⟨.str _, H, I.tok _, ⟨_, rfl⟩, q⟩
  | str x =>
    obtain ⟨t, rfl⟩ := rx
    exact PySem.P.repr_of_str ⟨.str _, H, I.tok _, ⟨_, rfl⟩, q⟩ hl
  | lst _ _ =>
    cases rx
    exact big _ rfl
  | tup _ _ =>
    cases rx
    exact big _ rfl
end

/-! ### a def that is called under no repr -/
structure FnG (P : Program) (w : World) (K : PySem.W.Frag) (mg : Str → Option Value) (base : Heap) (k : Nat) (f : Addr) (fd : FuncData) (ps : List Str) (sp : Sp) : Prop where
  len : ∀ vs H Q E, sp vs H Q E → vs.length = ps.length
  run : ∀ (A : Around) (outer : List Env) (s : Shared) (H : Hp) (args : Args) (us : List Value) (vs : List V) (Q : VK) (E : XK), Room k A → A.guards = some [] → Env0 P w K mg base A outer s H → BindsTo s fd args (ps.zip us) → Vals vs us → sp vs H Q E →
    codeAny (model P w) A (.call (.ref f) args) (CR CX0 outer P w H s Q E) s
section
variable {P : Program} {w : World} {K : PySem.W.Frag} {mg : Str → Option Value} {base : Heap}
theorem okG {x qual : Str} {st : Stmt} {f : Addr} {fd : FuncData} {N ps : List Str} {k : Nat} {sp : Sp} (F : Fun K x qual st f fd) (S : FnScope N ps (defScope st)) (len : ∀ vs H Q E, sp vs H Q E → vs.length = ps.length)
    (hbody : ∀ (cdv : Value) (A : Around) (outer : List Env) (s : Shared) (H : Hp) (vs : List V) (Q : VK) (E : XK), Room k (A.deeper (envOfC qual (defScope st) s.heap.objs.size f cdv)) → A.guards = some [] → sp vs H Q E →
      ∃ t, PSs (cxOf CX0 P w K mg base N qual (defScope st) f cdv A outer s H E).nox (defBody st) t ∧ t { nx := fun _ H' => Q .non H', rt := Q } (start N vs) H) : FnG P w K mg base (k + 1) f fd ps sp := by
  obtain ⟨oc, od, kV, doc, pm, an, cdv, ct, osl, rfl, lk, hcd⟩ := F.ex
  refine ⟨len, fun A outer s H args us vs Q E hr hgd e0 hb r hsp => ?_⟩
  have hln := len _ _ _ _ hsp
  have kept : ∀ b o, base.get? b = some o → s.heap.get? b = some o := fun b o e => (e0.bs b o e).1
  have hK : K.In s.heap := e0.mod.kin.keeps kept
  have hkind : ∀ y ∈ ps.zip us, (defScope st).names.lookup y.1 = some .local ∨ ((defScope st).names.lookup y.1 = some .cell ∧ ((cellsFrom (s.heap.objs.size + 1) (defScope st).names []).lookup y.1).isSome = true) := by
    rintro ⟨n, v⟩ hy
    rcases S.par n (List.of_mem_zip hy).1 with q | q
    · exact .inl q
    · exact .inr ⟨q, PySem.W.cellsFrom_some _ _ _ (.inl q)⟩
  refine codeAny_call_function hr.depth (hK _ _ lk) rfl S.co S.gen rfl (PySem.W.codeRec_of hK hcd) (hb _ _ _ _ ?_)
  refine wpAny_newFunctionEnv_cells S.kind hkind fun env he s1 x => ?_
  subst he
  refine ⟨(e0.mod.nolimit.keeps kept).keeps x.toInCall.keep, codeAny_func ?_⟩
  obtain ⟨t, ht, hq⟩ := hbody cdv A outer s H vs Q E (hr.deeper _) hgd hsp
  have I := inv_start (CX := CX0) (qual := qual) (f := f) (cd := cdv) (E := E) S hr.hd e0 hln r x
  refine wpAny_mono (ht.nox.run [] s1 (start N vs) H _ I hq) (fun fl s' hs => ?_) fun e s' hs => hs
  have fin : ∀ {σ' : L2.St} {H' : Hp} {v : V} {u : Value}, Inv (cxOf CX0 P w K mg base N qual (defScope st) f cdv A outer s H E) [] σ' H' s' → RelV v u → Q v H' → CE outer P w H s Q u s' :=
    fun {σ' H' v u} J rv q => ⟨v, H', J.os, J.bare, J.base, J.hok, rv, q⟩
  match fl, hs with
  | .ret u, ⟨v, σ', H', J, rv, q⟩ => exact fin J rv q
  | .next, ⟨σ', H', J, q⟩ => exact fin (v := V.non) (u := Value.none) J rfl q
  | .brk, ⟨_, _, _, q⟩ => exact q.elim
  | .cont, ⟨_, _, _, q⟩ => exact q.elim

/-! ### the law's own call -/
/-- the script alone is tracked, or nothing -/
theorem lawG {fa a : Addr} {fd : FuncData} {x : Str} {sp : Sp} {k : Nat} {mb : Str → Option Value} {s1 : Shared} {vs : List Value} {ns : List Int} (KX : K.In s1.heap) (hns : s1.heap.Ns mainGlobals mg) (hb : s1.heap.Ns builtinsNs mb)
    (hbb : ∀ x : Str, x ≠ "__name__" → mb x = bootBuiltins x) (hlim : s1.heap.NoLimit) (hg : s1.gens = #[]) (ha : s1.heap.get? a = some { cls := .type "list", data := .seq vs.toArray }) (hi : IntsAre vs ns) (hl : ns.length ≤ sizeLine) (hr : Room k callerA)
    (F : ∀ base : Heap, K.In base → base.Ns mainGlobals mg → FnG P w K mg base k fa fd [x] sp) (hbind : ∀ (s : Shared) (u : Value), BindsTo s fd ⟨[u], []⟩ [(x, u)])
    (hsp : ∀ H : Hp, Only H → SqL K H a (ns.map V.int) → sp [.ref a] H (fun v _ => v = .bl true) fun _ _ _ => False) :
    codeAny (model P w) callerA (.call (.ref fa) ⟨[.ref a], []⟩) (fun r s' => r = .ok (.ret (.bool true)) ∧ OldK s1.heap s'.heap ∧ s'.os = s1.os ∧ AllBare s'.gens) s1 := by
  have rv := vals_ints hi
  have main : ∀ H : Hp, Only H → SqL K H a (ns.map V.int) → HOk P w H s1.heap → (∀ b u, H b = some u → b = a ∧ K.lookup a = none) →
      codeAny (model P w) callerA (.call (.ref fa) ⟨[.ref a], []⟩) (fun r s' => r = .ok (.ret (.bool true)) ∧ OldK s1.heap s'.heap ∧ s'.os = s1.os ∧ AllBare s'.gens) s1 := by
    intro H only hS hok hA
    have noD : ∀ {b : Addr} {o : Obj} {es : Array DictEntry} {ep : Nat}, s1.heap.get? b = some o → o.data = .dict es ep → H b = none := by
      intro b o es ep e d
      cases q : H b with
      | none => rfl
      | some u =>
        obtain ⟨rfl, _⟩ := hA b u q
        rw [ha] at e
        cases e
        have d' : Data.seq vs.toArray _ = Data.dict es ep := d
        cases d'
    have nsB : ∀ {b : Addr} {m : Str → Option Value}, s1.heap.Ns b m → (hidT s1.heap H).Ns b m := by
      rintro b m ⟨o, es, ep, e, d, rest⟩
      exact ⟨o, es, ep, hidT_get e (noD e d), d, rest⟩
    have inB : K.In (hidT s1.heap H) := by
      intro b o e
      refine hidT_get (KX b o e) ?_
      cases q : H b with
      | none => rfl
      | some u =>
        obtain ⟨rfl, z⟩ := hA b u q
        rw [z] at e
        cases e
    obtain ⟨mc, l1, l2⟩ := hlim
    have hM : Mod K mg (hidT s1.heap H) := ⟨inB, nsB hns, ⟨mb, nsB hb, hbb⟩, ⟨mc, nsB l1, l2⟩⟩
    have e0 : Env0 P w K mg (hidT s1.heap H) callerA [] s1 H :=
      ⟨rfl, hM, fun b o e => of_hidT e, Nat.le_of_eq (hidT_size _ _), trivial, fun b z => absurd (show b ∈ ([] : List Addr) from z) (by simp), hok, .of_eq hg⟩
    refine codeAny_mono ((F _ inB (nsB hns)).run callerA [] s1 H ⟨[.ref a], []⟩ [.ref a] [.ref a] _ _ hr rfl e0 (hbind s1 (.ref a)) (.cons rfl .nil) (hsp H only hS)) fun r s' h => ?_
    match r, h with
    | .error e, h => exact False.elim h
    | .ok .next, h => exact False.elim h
    | .ok .brk, h => exact False.elim h
    | .ok .cont, h => exact False.elim h
    | .ok (.ret u), ⟨v, H', os, bare, un, hok', r', q⟩ =>
      have q' : v = .bl true := q
      subst q'
      obtain rfl : u = Value.bool true := r'
      refine ⟨rfl, OldK.of_keep fun b o e => ?_, os, bare⟩
      rcases only b with z | ⟨ob, xs, z⟩
      · exact un.keep b o e z (by intro y; exact absurd (show b ∈ ([] : List Addr) from y) (by simp)) (by simp)
      · obtain ⟨e1, _⟩ := hok b _ z
        obtain ⟨e2, _⟩ := hok' b _ (un.frzs b ob _ z)
        rw [e] at e1
        cases e1
        exact e2
  cases hk : K.lookup a with
  | some o =>
    have e := KX a o hk
    rw [ha] at e
    cases e
    exact main (fun _ => none) (fun _ => .inl rfl) (.inr ⟨_, vs.toArray, _, hk, rfl, rfl, rfl, by rw [List.size_toArray, hi.length]; exact hl, by simpa using rv⟩) (fun b u z => by cases (show (none : Option HO) = some u from z)) (fun b u z => by cases (show (none : Option HO) = some u from z))
  | none =>
    have at1 : ∀ {b : Addr} {u : HO}, (if b = a then some (HO.frz { cls := .type "list", data := .seq vs.toArray } (.lst (ns.map V.int))) else none) = some u → b = a ∧ u = HO.frz { cls := .type "list", data := .seq vs.toArray } (.lst (ns.map V.int)) := by
      intro b u z
      split at z
      · exact ⟨by assumption, (Option.some.inj z).symm⟩
      · cases z
    refine main (fun b => if b = a then some (.frz { cls := .type "list", data := .seq vs.toArray } (.lst (ns.map V.int))) else none) (fun b => ?_) (.inl (.inr ⟨_, if_pos rfl⟩)) (fun b u z => ?_) (fun b u z => ⟨(at1 z).1, hk⟩)
    · by_cases hb : b = a
      · exact .inr ⟨_, _, if_pos hb⟩
      · exact .inl (if_neg hb)
    · obtain ⟨rfl, rfl⟩ := at1 z
      exact ⟨ha, by rw [List.length_map]; exact hl, vs, _, rv, ha⟩
end
/-- the goal that the head leaves, from the law's promise -/
theorem walkG {l : PySem.W.OpenLaw} {n k : Nat} {q : Program} {loose : List Str} {XP : (Str → Option Value) → Heap → Prop} {YP : World → Heap → Prop} {d : DefRec} {K : Params → PySem.W.Frag} {sp : PySem.W.Frag → Sp} {x : Str}
    (hn : l.most = some n) (hn2 : n ≤ sizeLine) (hdf : d.params.defaults = []) (hr : Room k callerA) (hY : ∀ (w : World) (h : Heap), YP w h → (K w.params).In h)
    (F : ∀ (w : World) (mg : Str → Option Value) (fa : Addr) (h : Heap), (K w.params).In h → h.Ns mainGlobals mg → mg d.name = some (.ref fa) →
      ∃ fd : FuncData, (∀ (s : Shared) (u : Value), BindsTo s fd ⟨[u], []⟩ [(x, u)]) ∧ ∀ base : Heap, (K w.params).In base → base.Ns mainGlobals mg → FnG l.prog w (K w.params) mg base k fa fd [x] (sp (K w.params)))
    (hsp : ∀ (K : PySem.W.Frag) (H : Hp) (a : Addr) (ns : List Int), ns.length ≤ n → Only H → SqL K H a (ns.map V.int) → sp K [.ref a] H (fun v _ => v = .bl true) fun _ _ _ => False) :
    PySem.W.WalkO q loose XP YP l.row.toRowW d [] (fun f vs => PySem.call f vs) := by
  refine Att.attach_call hn hdf fun w s0 s1 mg mb fa o pm cd doc a vs ns G Y ho hd hcd hmg hobj hints hlen hg => ?_
  have KX := hY w _ Y
  obtain ⟨fd, hb, hF⟩ := F w mg fa _ KX G.T.g hmg
  exact lawG KX G.T.g G.T.b G.T.builtins G.T.nolimit hg hobj hints (Nat.le_trans hlen hn2) hr hF hb fun H only hS => hsp (K w.params) H a ns hlen only hS
end Vf

set_option Elab.async false
set_option linter.all false
set_option maxRecDepth 100000
set_option maxHeartbeats 4000000
/-! a def under no repr is called -/
namespace Vf
open PySem PySem.Spec PySem.Calls PyProof.Rows L2
section
variable {X : Cx} {k : Nat} {f : Addr} {fd : FuncData} {ps : List Str} {sp : Sp} {x : Str} {p pos : Pos} {e : Expr} {es : List Expr} {t : TA}
theorem run_fnG {pins : List (Addr × Obj)} {σ : L2.St} {H : Hp} {s : Shared} {Q : VK} {us : List Value} {vs : List V} (F : FnG X.prog X.w X.K X.mg X.base k f fd ps sp) (hg : X.A.guards = some []) (hr : Room k X.A) (hb : Binds X.K fd ps [])
    (I : Inv X pins σ H s) (r : Vals vs us) (h : sp vs H Q E0) : wpAny (model X.prog X.w) X.A (call (.ref f) us) (EP X pins σ Q) X.xe s := by
  have hl : us.length = ps.length := by rw [← r.length]; exact F.len _ _ _ _ h
  have hb' := hb s us I.kIn (by rw [List.append_nil]; exact hl)
  rw [List.append_nil] at hb'
  refine wpAny_call (codeAny_mono (F.run X.A X.stack s H ⟨us, []⟩ us vs Q E0 hr hg I.env0 hb' r h) fun r s' hq => ?_)
  cases r with
  | error e => exact hq.elim
  | ok fl =>
    cases fl with
    | ret u => exact I.after hq
    | next => exact False.elim hq
    | brk => exact False.elim hq
    | cont => exact False.elim hq
theorem pe_callG (F : FnG X.prog X.w X.K X.mg X.base k f fd ps sp) (hgd : X.A.guards = some []) (hr : Room k X.A) (hg : Gl X x) (hm : X.mg x = some (.ref f)) (hk : PySem.W.keepIn X.K (.ref f) = true) (hb : Binds X.K fd ps [])
    (ha : PA X (e :: es) t) (hdb : (x == ("__debug__" : Str)) = false := by decide) (he : starEach (e :: es) X.env = (false, eval e X.env) :: starEach es X.env := by rfl) (hpl : (backTo pos (starEach es X.env)).any (·.1) = false := by rfl) :
    PE X (.Call (.Name x p) (e :: es) [] pos) (tCall sp [] E0 t) := by
  refine ⟨fun pins s σ H Q I h => ?_⟩
  refine wpAny_Call_Name_kw (ld_glob I hg hm ?_ hdb)
  refine PySem.W.callWith_K (h₀ := X.base) I.ok.mod.kin hk (thn (ha.run pos pins s σ H _ I h) fun us s1 ⟨vs, H1, I1, r, q⟩ => ⟨I1.kIn, ?_⟩) he hpl
  have q2 : sp (vs ++ []) H1 Q E0 := q
  rw [List.append_nil] at q2
  exact run_fnG F hgd hr hb I1 r q2
end
end Vf

set_option Elab.async false
set_option linter.all false
set_option maxRecDepth 100000
set_option maxHeartbeats 1000000
/-! the data layer: readings by data alone -/
namespace Vf
open PySem PySem.Spec PyProof.Rows L2

/-- an error that flies: its class, its field, what that keeps -/
structure Xd where
  c : Addr
  f : Str
  d : D
abbrev EK := D → Ev → Prop
abbrev RK := Xd → Ev → Prop
abbrev DE := Ev → EK → RK → Prop
abbrev DT := Ev → (Bool → Ev → Prop) → RK → Prop
abbrev DA := Ev → (List D → Ev → Prop) → RK → Prop
structure De where
  nx : Ev → Prop
  rt : EK
  bk : Ev → Prop
  ct : Ev → Prop
  rz : RK
abbrev DS := Ev → De → Prop
section
variable (K : PySem.W.Frag) (W : WX)
def LX (c : Ct) (σ : L2.St) (G : Hp) (R : RK) : Prop := ∀ x ρ' e v H' G', R x ρ' → Rep K c σ H' G' ρ' → Same G G' → Rp K G' v x.d → H' e = none → W (.ref x.c) (some e) σ (upd H' e (.xd [(x.f, v)]))
def LE (F : DE) : TE := fun σ H Q => ∃ c G ρ P R, Rep K c σ H G ρ ∧ F ρ P R ∧ (∀ d ρ' v H' G', P d ρ' → Rep K c σ H' G' ρ' → Same G G' → Rp K G' v d → Q v H') ∧ LX K W c σ G R
def LT (F : DT) : TT := fun σ H Q => ∃ c G ρ P R, Rep K c σ H G ρ ∧ F ρ P R ∧ (∀ b ρ' H' G', P b ρ' → Rep K c σ H' G' ρ' → Same G G' → Q b H') ∧ LX K W c σ G R
def LA (F : DA) : TA := fun σ H Q => ∃ c G ρ P R, Rep K c σ H G ρ ∧ F ρ P R ∧ (∀ ds ρ' vs H' G', P ds ρ' → Rep K c σ H' G' ρ' → Same G G' → RpAll K G' vs ds → Q vs H') ∧ LX K W c σ G R
structure O4 (c : Ct) (G : Hp) (e : De) (D : Ends) : Prop where
  nx : ∀ ρ' σ' H' G', e.nx ρ' → Rep K c σ' H' G' ρ' → Same G G' → D.nx σ' H'
  rt : ∀ d ρ' σ' v H' G', e.rt d ρ' → Rep K c σ' H' G' ρ' → Same G G' → Rp K G' v d → D.rt v H'
  bk : ∀ ρ' σ' H' G', e.bk ρ' → Rep K c σ' H' G' ρ' → Same G G' → D.bk σ' H'
  ct : ∀ ρ' σ' H' G', e.ct ρ' → Rep K c σ' H' G' ρ' → Same G G' → D.ct σ' H'
  rz : ∀ σ', LX K W c σ' G e.rz
def LS (F : DS) : TS := fun D σ H => ∃ c G ρ e, Rep K c σ H G ρ ∧ F ρ e ∧ O4 K W c G e D
abbrev PD (X : Cx) (e : Expr) (F : DE) : Prop := PE X e (LE K W F)
abbrev PDT (X : Cx) (e : Expr) (F : DT) : Prop := PT X e (LT K W F)
abbrev PDA (X : Cx) (es : List Expr) (F : DA) : Prop := PA X es (LA K W F)
abbrev PDS (X : Cx) (s : Stmt) (F : DS) : Prop := PS X s (LS K W F)
abbrev PDSs (X : Cx) (s : List Stmt) (F : DS) : Prop := PSs X s (LS K W F)
end
section
variable {X : Cx} {K : PySem.W.Frag} {W : WX}
theorem LX.step {c : Ct} {σ : L2.St} {G G' : Hp} {R : RK} (h : LX K W c σ G R) (s : Same G G') : LX K W c σ G' R := fun x ρ' e v H' G'' a b t r n => h x ρ' e v H' G'' a b (s.trans t) r n
theorem O4.step {c : Ct} {G G' : Hp} {e : De} {D : Ends} (h : O4 K W c G e D) (s : Same G G') : O4 K W c G' e D :=
  ⟨fun a b d f g i j => h.nx a b d f g i (s.trans j), fun a b d f g i j k l => h.rt a b d f g i j k (s.trans l), fun a b d f g i j => h.bk a b d f g i (s.trans j), fun a b d f g i j => h.ct a b d f g i (s.trans j), fun σ' => (h.rz σ').step s⟩
theorem PE.imp {e : Expr} {t t' : TE} (h : PE X e t) (m : ∀ σ H Q, t' σ H Q → t σ H Q) : PE X e t' := ⟨fun pins s σ H Q I q => h.run pins s σ H Q I (m _ _ _ q)⟩
theorem PT.imp {e : Expr} {t t' : TT} (h : PT X e t) (m : ∀ σ H Q, t' σ H Q → t σ H Q) : PT X e t' := ⟨fun pins s σ H Q I q => h.run pins s σ H Q I (m _ _ _ q)⟩
theorem PW.imp {e : Expr} {t t' : TT} (h : PW X e t) (m : ∀ σ H Q, t' σ H Q → t σ H Q) : PW X e t' := ⟨fun wh pins s σ H Q I q => h.run wh pins s σ H Q I (m _ _ _ q)⟩
theorem PA.imp {e : List Expr} {t t' : TA} (h : PA X e t) (m : ∀ σ H Q, t' σ H Q → t σ H Q) : PA X e t' := ⟨fun p pins s σ H Q I q => h.run p pins s σ H Q I (m _ _ _ q)⟩
theorem PS.imp {e : Stmt} {t t' : TS} (h : PS X e t) (m : ∀ D σ H, t' D σ H → t D σ H) : PS X e t' := ⟨fun pins s σ H D I q => h.run pins s σ H D I (m _ _ _ q)⟩
theorem PSs.imp {e : List Stmt} {t t' : TS} (h : PSs X e t) (m : ∀ D σ H, t' D σ H → t D σ H) : PSs X e t' := ⟨fun pins s σ H D I q => h.run pins s σ H D I (m _ _ _ q)⟩
theorem OpR.imp {f : Value → Value → Sem Value} {r r' : R2} (h : OpR X f r) (m : ∀ x y H Q, r' x y H Q → r x y H Q) : OpR X f r' := fun pins s σ H x y v u Q I a b q => h pins s σ H x y v u Q I a b (m _ _ _ _ q)

/-! ### names and constants -/
def varD (i : Nat) : DE := fun ρ P _ => match ρ[i]? with
  | some (.val d) => P d ρ
  | some (.own l) => P (.lst l) (ρ.set i (.val (.lst l)))
  | some (.ownK ks ds) => P (.dcK ks ds) (ρ.set i (.val (.dcK ks ds)))
  | some (.ownT ks ds) => P (.dcT ks ds) (ρ.set i (.val (.dcT ks ds)))
  | _ => False
theorem pd_var (i : Nat) {x : Str} {pos : Pos} (hN : X.N[i]? = some x := by rfl) (hv : Vis X.env.scope x := by first | exact Or.inl rfl | exact Or.inr (Or.inl rfl) | exact Or.inr (Or.inr rfl)) (hd : (x == ("__debug__" : Str)) = false := by decide)
    (hcd : (x == ("__classdict__" : Str)) = false := by decide) : PD K W X (.Name x pos) (varD i) := by
  refine PE.imp (pe_var hN hv hd hcd) fun σ H Q ⟨c, G, ρ, P, R, r, f, k, _⟩ => ?_
  unfold varD at f
  split at f
  · rename_i d e
    obtain ⟨v, ev, q⟩ := r.val e
    exact ⟨v, ev, k _ _ _ _ _ f r (Same.refl _) q⟩
  · rename_i l e
    obtain ⟨a, xs, ev, eh, ra, ga, wr, fz, sg⟩ := r.ownL e
    exact ⟨_, ev, k _ _ _ _ _ f fz sg ⟨a, xs, rfl, upd_same, ra.mono sg⟩⟩
  · rename_i ks ds e
    obtain ⟨a, kvs, ev, eh, en, ra, ga, wr, fz, sg⟩ := r.ownDK e
    exact ⟨_, ev, k _ _ _ _ _ f fz sg ⟨a, kvs, rfl, upd_same, en, ra.mono sg⟩⟩
  · rename_i ks ds e
    obtain ⟨a, kvs, ev, eh, en, ra, ga, wr, fz, sg⟩ := r.ownDT e
    exact ⟨_, ev, k _ _ _ _ _ f fz sg ⟨a, kvs, rfl, upd_same, en, ra.mono sg⟩⟩
  · exact f.elim
def conD (d : D) : DE := fun ρ P _ => P d ρ
theorem pd_con {e : Expr} {v : V} {d : D} (h : PE X e (tC v)) (hr : ∀ G, Rp K G v d) : PD K W X e (conD d) :=
  PE.imp h fun σ H Q ⟨c, G, ρ, P, R, r, f, k, _⟩ => k _ _ _ _ _ f r (Same.refl _) (hr G)
theorem pd_int {i : Int} {j} {pos} : PD K W X (.Constant (.int i) j pos) (conD (.int i)) := pd_con pe_int fun _ => rfl
theorem pd_bl {b : Bool} {j} {pos} : PD K W X (.Constant (.bool b) j pos) (conD (.bl b)) := pd_con pe_bl fun _ => rfl
theorem pd_non {j} {pos} : PD K W X (.Constant .none j pos) (conD .non) := pd_con pe_non fun _ => rfl
theorem pd_str {x : Str} {j} {pos} : PD K W X (.Constant (.str x) j pos) (conD (.str x)) := pd_con pe_str fun _ => rfl
theorem pd_glob {x : Str} {v : V} {d : D} {u : Value} {pos : Pos} (hr : ∀ G, Rp K G v d) (hg : Gl X x) (hm : X.mg x = some u) (r : RelV v u) (hd : (x == ("__debug__" : Str)) = false := by decide) : PD K W X (.Name x pos) (conD d) := pd_con (pe_glob hg hm r hd) hr

/-! ### arguments, displays -/
def nilA : DA := fun ρ P _ => P [] ρ
def consA (F : DE) (Fs : DA) : DA := fun ρ P R => F ρ (fun d ρ1 => Fs ρ1 (fun ds ρ2 => P (d :: ds) ρ2) R) R
theorem pda_nil : PDA K W X [] nilA := PA.imp pa_nil fun σ H Q ⟨c, G, ρ, P, R, r, f, k, _⟩ => k _ _ _ _ _ f r (Same.refl _) RpAll.nil
theorem pda_cons {e : Expr} {es : List Expr} {F : DE} {Fs : DA} (he : PD K W X e F) (hs : PDA K W X es Fs) (hst : starEach (e :: es) X.env = (false, eval e X.env) :: starEach es X.env := by rfl) : PDA K W X (e :: es) (consA F Fs) := by
  refine PA.imp (pa_cons he hs hst) fun σ H Q ⟨c, G, ρ, P, R, r, f, k, kx⟩ => ?_
  refine ⟨c, G, ρ, _, R, r, f, fun d ρ1 v H1 G1 f1 r1 s1 q1 => ?_, kx⟩
  refine ⟨c, G1, ρ1, _, R, r1, f1, fun ds ρ2 vs H2 G2 f2 r2 s2 q2 => ?_, kx.step s1⟩
  exact k _ _ _ _ _ f2 r2 (s1.trans s2) (RpAll.cons (q1.mono s2) q2)
def tupD (Fs : DA) : DE := fun ρ P R => Fs ρ (fun ds ρ1 => ds.length ≤ sizeLine ∧ P (.tup ds) ρ1) R
def lstD (Fs : DA) : DE := fun ρ P R => Fs ρ (fun ds ρ1 => ds.length ≤ sizeLine ∧ P (.lst ds) ρ1) R
theorem pd_tup {es : List Expr} {Fs : DA} {x1} {pos : Pos} (h : PDA K W X es Fs) : PD K W X (.Tuple es x1 pos) (tupD Fs) := by
  refine PE.imp (pe_tup h) fun σ H Q ⟨c, G, ρ, P, R, r, f, k, kx⟩ => ?_
  refine ⟨c, G, ρ, _, R, r, f, fun ds ρ1 vs H1 G1 f1 r1 s1 q1 => ⟨by rw [q1.len]; exact f1.1, fun p hp => ?_⟩, kx⟩
  have e := Ext.new (o := .tup vs) r1.gh hp
  exact k _ _ _ _ _ f1.2 (r1.ext e) (s1.trans e.g) ⟨p, vs, rfl, SqT.of upd_same, q1.mono e.g⟩
theorem pd_lst {es : List Expr} {Fs : DA} {pos : Pos} (h : PDA K W X es Fs) : PD K W X (.List es pos) (lstD Fs) := by
  refine PE.imp (pe_lst h) fun σ H Q ⟨c, G, ρ, P, R, r, f, k, kx⟩ => ?_
  refine ⟨c, G, ρ, _, R, r, f, fun ds ρ1 vs H1 G1 f1 r1 s1 q1 => ⟨by rw [q1.len]; exact f1.1, fun p hp => ?_⟩, kx⟩
  have e := Ext.new (o := .lst vs) r1.gh hp
  exact k _ _ _ _ _ f1.2 (r1.ext e) (s1.trans e.g) ⟨p, vs, rfl, upd_same, q1.mono e.g⟩

/-! ### operations by values -/
/-- a two-place operation on data -/
abbrev G2 := D → D → (D → Prop) → Prop
def RD2 (K : PySem.W.Frag) (g : G2) : R2 := fun v w H Q => ∃ G d e P, Same G H ∧ Rp K G v d ∧ Rp K G w e ∧ g d e P ∧ ∀ r u H' G', P r → Ext H G H' G' → Rp K G' u r → Q u H'
def binD (g : G2) (Fa Fb : DE) : DE := fun ρ P R => Fa ρ (fun d ρ1 => Fb ρ1 (fun e ρ2 => g d e (fun r => P r ρ2)) R) R
theorem LE.bin {g : G2} {Fa Fb : DE} {σ : L2.St} {H : Hp} {Q : VK} (h : LE K W (binD g Fa Fb) σ H Q) : tOp (RD2 K g) (LE K W Fa) (LE K W Fb) σ H Q := by
  obtain ⟨c, G, ρ, P, R, r, f, k, kx⟩ := h
  refine ⟨c, G, ρ, _, R, r, f, fun d ρ1 v H1 G1 f1 r1 s1 q1 => ?_, kx⟩
  refine ⟨c, G1, ρ1, _, R, r1, f1, fun e ρ2 w H2 G2 f2 r2 s2 q2 => ?_, kx.step s1⟩
  refine ⟨G2, d, e, _, r2.gh, q1.mono s2, q2, f2, fun x u H' G' p ex rp => ?_⟩
  exact k _ _ _ _ _ p (r2.ext ex) ((s1.trans s2).trans ex.g) rp
theorem pd_op {a b : Expr} {op : Operator} {pos : Pos} {g : G2} {Fa Fb : DE} (ho : OpR X (binaryOp op) (RD2 K g)) (ha : PD K W X a Fa) (hb : PD K W X b Fb) : PD K W X (.BinOp a op b pos) (binD g Fa Fb) := PE.imp (pe_op ho ha hb) fun _ _ _ h => h.bin
theorem pd_cmp {a b : Expr} {op : CmpOp} {pos : Pos} {g : G2} {Fa Fb : DE} (ho : OpR X (compareOp op) (RD2 K g)) (ha : PD K W X a Fa) (hb : PD K W X b Fb) (hm : behindInMarks op b = false := by first | exact nomark _ | rfl) : PD K W X (.Compare a [op] [b] pos) (binD g Fa Fb) :=
  PE.imp (pe_cmpR ho ha hb hm) fun _ _ _ h => h.bin
theorem pd_ix {a b : Expr} {pos : Pos} {g : G2} {Fa Fb : DE} (ho : IxR X (RD2 K g)) (ha : PD K W X a Fa) (hb : PD K W X b Fb) (hs : PlainIx b := by exact fun _ _ => rfl) : PD K W X (.Subscript a b pos) (binD g Fa Fb) := PE.imp (pe_ix ho ha hb hs) fun _ _ _ h => h.bin
def unD (g : D → (D → Prop) → Prop) (Fa : DE) : DE := fun ρ P R => Fa ρ (fun d ρ1 => g d (fun r => P r ρ1)) R
def RD1 (K : PySem.W.Frag) (g : D → (D → Prop) → Prop) : V → Hp → VK → Prop := fun v H Q => ∃ G d P, Same G H ∧ Rp K G v d ∧ g d P ∧ ∀ r u H' G', P r → Ext H G H' G' → Rp K G' u r → Q u H'
theorem LE.un {g : D → (D → Prop) → Prop} {Fa : DE} {σ : L2.St} {H : Hp} {Q : VK} (h : LE K W (unD g Fa) σ H Q) : LE K W Fa σ H fun x H1 => RD1 K g x H1 Q := by
  obtain ⟨c, G, ρ, P, R, r, f, k, kx⟩ := h
  refine ⟨c, G, ρ, _, R, r, f, fun d ρ1 v H1 G1 f1 r1 s1 q1 => ?_, kx⟩
  refine ⟨G1, d, _, r1.gh, q1, f1, fun x u H' G' p ex rp => ?_⟩
  exact k _ _ _ _ _ p (r1.ext ex) (s1.trans ex.g) rp
theorem pd_un {a : Expr} {op : UnaryOp} {pos : Pos} {g : D → (D → Prop) → Prop} {Fa : DE} (ho : UnR X (unaryOp op) (RD1 K g)) (ha : PD K W X a Fa) : PD K W X (.UnaryOp op a pos) (unD g Fa) := PE.imp (pe_un ho ha) fun _ _ _ h => h.un
/-- a built-in called -/
abbrev Gn := List D → (D → Prop) → Prop
def RDn (K : PySem.W.Frag) (g : Gn) : List V → Hp → VK → Prop := fun vs H Q => ∃ G ds P, Same G H ∧ RpAll K G vs ds ∧ g ds P ∧ ∀ r u H' G', P r → Ext H G H' G' → Rp K G' u r → Q u H'
def bltD (g : Gn) (Fs : DA) : DE := fun ρ P R => Fs ρ (fun ds ρ1 => g ds (fun r => P r ρ1)) R
theorem LE.blt {g : Gn} {Fs : DA} {σ : L2.St} {H : Hp} {Q : VK} (h : LE K W (bltD g Fs) σ H Q) : LA K W Fs σ H fun xs H1 => RDn K g xs H1 Q := by
  obtain ⟨c, G, ρ, P, R, r, f, k, kx⟩ := h
  refine ⟨c, G, ρ, _, R, r, f, fun ds ρ1 vs H1 G1 f1 r1 s1 q1 => ?_, kx⟩
  refine ⟨G1, ds, _, r1.gh, q1, f1, fun x u H' G' p ex rp => ?_⟩
  exact k _ _ _ _ _ p (r1.ext ex) (s1.trans ex.g) rp
theorem pd_blt {x : Str} {id : String} {e : Expr} {es : List Expr} {g : Gn} {Fs : DA} {p pos : Pos} (hc : CallR X (.builtin id) (RDn K g)) (hm : X.mg x = none) (ha : PDA K W X (e :: es) Fs) (hg : Gl X x := by rfl) (hv : bootBuiltins x = some (.builtin id) := by decide +kernel)
    (hn : x ≠ "__name__" := by decide) (hdb : (x == ("__debug__" : Str)) = false := by decide) (he : starEach (e :: es) X.env = (false, eval e X.env) :: starEach es X.env := by rfl) (hpl : (backTo pos (starEach es X.env)).any (·.1) = false := by rfl) :
    PD K W X (.Call (.Name x p) (e :: es) [] pos) (bltD g Fs) := PE.imp (pe_callB hc hg hm hv ha hn hdb he hpl) fun _ _ _ h => h.blt
theorem pd_bty {x : Str} {T : String} {e : Expr} {es : List Expr} {g : Gn} {Fs : DA} {p pos : Pos} (hc : CallR X (.type T) (RDn K g)) (hm : X.mg x = none) (ha : PDA K W X (e :: es) Fs) (hg : Gl X x := by rfl) (hv : bootBuiltins x = some (.type T) := by decide +kernel)
    (hn : x ≠ "__name__" := by decide) (hdb : (x == ("__debug__" : Str)) = false := by decide) (he : starEach (e :: es) X.env = (false, eval e X.env) :: starEach es X.env := by rfl) (hpl : (backTo pos (starEach es X.env)).any (·.1) = false := by rfl) :
    PD K W X (.Call (.Name x p) (e :: es) [] pos) (bltD g Fs) := PE.imp (pe_callTy hc hg hm hv ha hn hdb he hpl) fun _ _ _ h => h.blt

/-! ### tests -/
def tstD (F : DE) : DT := fun ρ P R => F ρ (fun d ρ1 => ∃ b, d = .bl b ∧ P b ρ1) R
theorem LT.tst {F : DE} {σ : L2.St} {H : Hp} {Q : Bool → Hp → Prop} (h : LT K W (tstD F) σ H Q) : LE K W F σ H fun x H1 => ∃ c, x = .bl c ∧ Q c H1 := by
  obtain ⟨c, G, ρ, P, R, r, f, k, kx⟩ := h
  refine ⟨c, G, ρ, _, R, r, f, fun d ρ1 v H1 G1 f1 r1 s1 q1 => ?_, kx⟩
  obtain ⟨b, rfl, f1⟩ := f1
  exact ⟨b, q1, k _ _ _ _ f1 r1 s1⟩
theorem pdt_val {e : Expr} {F : DE} (h : PD K W X e F) (he : ∀ whole, isTrue e X.env whole = (do let v ← whole; standAt e.pos; holding [v] (truthy v)) := by intro _; rfl) : PDT K W X e (tstD F) := PT.imp (pt_val h he) fun _ _ _ h => h.tst
theorem pdt_cmp {a b : Expr} {op : CmpOp} {pos : Pos} {g : G2} {Fa Fb : DE} (ho : OpR X (compareOp op) (RD2 K g)) (ha : PD K W X a Fa) (hb : PD K W X b Fb) (hm : behindInMarks op b = false := by first | exact nomark _ | rfl) : PDT K W X (.Compare a [op] [b] pos) (tstD (binD g Fa Fb)) := by
  refine PT.imp (pt_cmpR ho ha hb hm) fun σ H Q h => ?_
  have q := h.tst
  exact LE.bin q
/-- a value's truth -/
def truB : D → Option Bool
  | .non => some false
  | .bl b => some b
  | .int i => some (i != 0)
  | .str s => some (s.length != 0)
  | .lst l => some (!l.isEmpty)
  | .tup l => some (!l.isEmpty)
  | .dcK ks _ => some (!ks.isEmpty)
  | _ => none
def truD (F : DE) : DT := fun ρ P R => F ρ (fun d ρ1 => ∃ b, truB d = some b ∧ (∀ s, d = .str s → s.length ≤ sizeLine) ∧ P b ρ1) R
theorem rp_emp {G : Hp} {xs : List V} {ds : List D} (h : RpAll K G xs ds) : xs.isEmpty = ds.isEmpty := by
  have := h.len
  cases xs <;> cases ds <;> simp_all
theorem pdt_tru {e : Expr} {F : DE} (hK : X.K = K) (h : PD K W X e F) (he : ∀ whole, isTrue e X.env whole = (do let v ← whole; standAt e.pos; holding [v] (truthy v)) := by intro _; rfl) : PDT K W X e (truD F) := by
  refine PT.imp (pt_truth h he) fun σ H Q h => ?_
  obtain ⟨c, G, ρ, P, R, r, f, k, kx⟩ := h
  refine ⟨c, G, ρ, _, R, r, f, fun d ρ1 v H1 G1 f1 r1 s1 q1 => ?_, kx⟩
  obtain ⟨b, eb, hs, f1⟩ := f1
  refine ⟨b, ?_, k _ _ _ _ f1 r1 s1⟩
  rw [hK]
  cases d with
  | non => cases (show v = _ from q1); cases eb; exact rfl
  | bl b' => cases (show v = _ from q1); cases eb; exact rfl
  | int i => cases (show v = _ from q1); cases eb; exact rfl
  | str s =>
    cases (show v = _ from q1)
    cases eb
    refine ⟨hs s rfl, ?_⟩
    show (s.length != 0) = ((s.length : Int) != 0)
    cases s.length <;> rfl
  | lst l =>
    obtain ⟨a, xs, rfl, q, ra⟩ := q1
    cases eb
    exact .inl ⟨xs, SqL.of (r1.gh _ _ q), by rw [rp_emp ra]⟩
  | tup l =>
    obtain ⟨a, xs, rfl, q, ra⟩ := q1
    cases eb
    exact .inr (.inl ⟨xs, same_sqT r1.gh q, by rw [rp_emp ra]⟩)
  | dcK ks ds =>
    obtain ⟨a, kvs, rfl, q, n, ra⟩ := q1
    cases eb
    exact .inr (.inr ⟨kvs, r1.gh _ _ q, by cases kvs <;> cases n <;> rfl⟩)
  | dcT ks ds => cases eb
  | ins C ns ds => cases eb
  | obj a => cases eb
  | scr ns => cases eb
  | ty n => cases eb
  | nms zs => cases eb
  | kt zs => cases eb
  | exc e e0 f d => cases eb
end
end Vf

set_option Elab.async false
set_option linter.all false
set_option maxRecDepth 100000
set_option maxHeartbeats 4000000
/-! sorted, of lists and tuples: texts; triples of two texts and a number -/
namespace Vf
open PySem PySem.Spec PyProof.Rows L2

/-- a strict linear order -/
structure Lin {α : Type} (lt : α → α → Bool) : Prop where
  irr : ∀ x, lt x x = false
  tr : ∀ x y z, lt x y = true → lt y z = true → lt x z = true
  tri : ∀ x y, lt x y = false → lt y x = false → x = y
theorem Lin.asym {α : Type} {lt : α → α → Bool} (O : Lin lt) {x y : α} (h : lt x y = true) : lt y x = false := by
  cases e : lt y x with
  | false => rfl
  | true =>
    have q := O.tr _ _ _ h e
    rw [O.irr] at q
    cases q
theorem Lin.swo {α β : Type} {lt : α → α → Bool} (O : Lin lt) (k : β → α) : SrtO.Swo fun v u => lt (k v) (k u) := by
  refine ⟨fun x y h => O.asym h, fun x y z h1 h2 => ?_⟩
  cases e : lt (k z) (k x) with
  | false => rfl
  | true =>
    cases e1 : lt (k x) (k y) with
    | true =>
      have q := O.tr _ _ _ e e1
      rw [h2] at q
      cases q
    | false =>
      have q := O.tri _ _ e1 h1
      rw [← q, e] at h2
      cases h2
/-- one after the other -/
def Asc {α : Type} (lt : α → α → Bool) (l : List α) : Prop := l.Pairwise fun x y => lt y x = false
theorem asc_uniq {α : Type} {lt : α → α → Bool} (O : Lin lt) : ∀ {l m : List α}, Asc lt l → Asc lt m → l.Perm m → l = m
  | [], m, _, _, h => (List.Perm.eq_nil h.symm).symm
  | x :: l, [], _, _, h => absurd h.length_eq (by simp)
  | x :: l, y :: m, hl, hm, h => by
    have h1 : lt x y = false := by
      rcases List.mem_cons.mp (h.mem_iff.mp (List.mem_cons_self (a := x) (l := l))) with e | hx
      · rw [e]
        exact O.irr y
      · exact (List.pairwise_cons.mp hm).1 x hx
    have h2 : lt y x = false := by
      rcases List.mem_cons.mp (h.mem_iff.mpr (List.mem_cons_self (a := y) (l := m))) with e | hy
      · rw [e]
        exact O.irr x
      · exact (List.pairwise_cons.mp hl).1 y hy
    have e := O.tri _ _ h1 h2
    subst e
    rw [asc_uniq O (List.pairwise_cons.mp hl).2 (List.pairwise_cons.mp hm).2 h.cons_inv]
/-- by the first, then by the second -/
def lexP {α β : Type} [DecidableEq α] (l1 : α → α → Bool) (l2 : β → β → Bool) (x y : α × β) : Bool := if x.1 = y.1 then l2 x.2 y.2 else l1 x.1 y.1
theorem Lin.lex {α β : Type} [DecidableEq α] {l1 : α → α → Bool} {l2 : β → β → Bool} (O : Lin l1) (R : Lin l2) : Lin (lexP l1 l2) := by
  refine ⟨fun x => ?_, fun x y z h1 h2 => ?_, fun x y h1 h2 => ?_⟩
  · unfold lexP
    rw [if_pos rfl]
    exact R.irr _
  · obtain ⟨x1, x2⟩ := x
    obtain ⟨y1, y2⟩ := y
    obtain ⟨z1, z2⟩ := z
    simp only [lexP] at h1 h2 ⊢
    by_cases a : x1 = y1
    · subst a
      rw [if_pos rfl] at h1
      by_cases b : x1 = z1
      · rw [if_pos b] at h2 ⊢
        exact R.tr _ _ _ h1 h2
      · rw [if_neg b] at h2 ⊢
        exact h2
    · rw [if_neg a] at h1
      by_cases b : y1 = z1
      · subst b
        rw [if_neg a]
        exact h1
      · rw [if_neg b] at h2
        have q := O.tr _ _ _ h1 h2
        by_cases c : x1 = z1
        · rw [c, O.irr] at q
          cases q
        · rw [if_neg c]
          exact q
  · obtain ⟨x1, x2⟩ := x
    obtain ⟨y1, y2⟩ := y
    simp only [lexP] at h1 h2
    by_cases a : x1 = y1
    · rw [if_pos a] at h1
      rw [if_pos a.symm] at h2
      rw [a, R.tri _ _ h1 h2]
    · rw [if_neg a] at h1
      rw [if_neg (Ne.symm a)] at h2
      exact absurd (O.tri _ _ h1 h2) a
def ltI (x y : Int) : Bool := decide (x < y)
theorem lin_int : Lin ltI := by
  refine ⟨fun x => decide_eq_false (Int.lt_irrefl x), fun x y z h1 h2 => decide_eq_true (Int.lt_trans (of_decide_eq_true h1) (of_decide_eq_true h2)), fun x y h1 h2 => ?_⟩
  have a := of_decide_eq_false h1
  have b := of_decide_eq_false h2
  omega
/-- texts, by their code points -/
def ltS (x y : Str) : Bool := decide (x.cps.toList < y.cps.toList)
theorem str_ext {x y : Str} (h : x.cps.toList = y.cps.toList) : x = y := by
  obtain ⟨x⟩ := x
  obtain ⟨y⟩ := y
  have e : x = y := Array.toList_inj.mp h
  rw [e]
theorem lin_str : Lin ltS := by
  refine ⟨fun x => decide_eq_false (List.lt_irrefl _), fun x y z h1 h2 => decide_eq_true (List.lt_trans (of_decide_eq_true h1) (of_decide_eq_true h2)), fun x y h1 h2 => ?_⟩
  have a := of_decide_eq_false h1
  have b := of_decide_eq_false h2
  exact str_ext (List.le_antisymm (List.not_lt.mp b) (List.not_lt.mp a))
abbrev Tri := Str × Str × Int
def ltT : Tri → Tri → Bool := lexP ltS (lexP ltS ltI)
theorem lin_tri : Lin ltT := lin_str.lex (lin_str.lex lin_int)
end Vf

set_option Elab.async false
set_option linter.all false
set_option maxRecDepth 100000
set_option maxHeartbeats 4000000
namespace Vf
open PySem PySem.Spec PyProof.Rows L2

section
variable {prog : Program} {w : World} {A : Around} {E : Value → Shared → Prop} {s : Shared}
/-- sorted of a list or a tuple -/
theorem sorted_coll {l : Addr} {T : String} {o : Obj} {n : Nat} {vs : List Value} {ltv : Value → Value → Bool} {Q : Value → Shared → Prop} (O : SrtO.Swo ltv) (hT : T = "list" ∨ T = "tuple") (ho : s.heap.get? l = some o) (hc : o.cls = .type T) (hd : o.data = .seq vs.toArray n)
    (hz : vs.length ≤ sizeLine) (hS : 2 ≤ vs.length → ∀ (h₁ : Heap) (a : Addr), h₁.get? a = some (seqObj "list" vs.toArray 0) → (∀ b o, s.heap.get? b = some o → b ≠ a ∧ h₁.get? b = some o) → SrtO.SortableO prog w A.in1.in1 { s with heap := h₁ } a vs ltv)
    (h : ∀ (out : List Value) (h1 h' : Heap) (d : Addr), SrtO.Srtd ltv out → SrtO.Stb ltv out vs → (∀ b o, s.heap.get? b = some o → h1.get? b = some o) → (∀ b o, h1.get? b = some o → h'.get? b = some o) → h1.objs.size ≤ d → (∃ n, h'.get? d = some (seqObj "list" out.toArray n)) → Q (.ref d) { s with heap := h' }) :
    wpAny (model prog w) A (call (.builtin "sorted") [.ref l]) Q E s := by
  refine Calls.call_function_entry kind_sorted plain_sorted entry_sorted (args_sorted1 _) ?_
  unfold Builtin.«sorted»
  refine wpAny_bind (m := checkCount "sorted" 1 1 _) (wpAny_pure ?_)
  refine wpAny_bind (PySem.wpAny_collect_seq l hT ho hc hd (fun h1 k1 => ?_) (by rw [List.size_toArray]; exact hz))
  rw [List.toList_toArray]
  refine wpAny_bind (wpAny_newList ?_ hz)
  have hoL : (h1.push (seqObj "list" vs.toArray 0)).get? h1.objs.size = some (seqObj "list" vs.toArray 0) := Heap.get?_push_size _ rfl
  have keep : ∀ b o, h1.get? b = some o → b ≠ h1.objs.size ∧ (h1.push (seqObj "list" vs.toArray 0)).get? b = some o := fun b o q =>
    ⟨Nat.ne_of_lt (Heap.lt_size q), Heap.get?_push_of_some _ q⟩
  refine wpAny_bind (wpAny_holding (wpAny_call_entry slot_list_sort ⟨_, hoL, rfl⟩ entry_list_sort (SrtO.list_sort_ord O hoL hz (fun h2 => hS h2 _ _ hoL fun b o q => keep b o (k1 b o q)) fun out hs hb => ⟨_, rfl, ?_⟩) (args_list_sort _)))
  refine wpAny_pure ⟨_, rfl, h out h1 _ _ hs hb k1 (fun b o q => ?_) (Nat.le_refl _) (sortedHeap_at hoL)⟩
  rw [sortedHeap_old (keep b o q).1 (Heap.lt_size (keep b o q).2)]
  exact (keep b o q).2

/-! ### texts -/
def strOf : Value → Str
  | .str x _ => x
  | _ => Str.empty
theorem strs_shape : ∀ {vs : List Value} {xs : List Str}, StrsAre vs xs → xs = vs.map strOf ∧ ∀ v ∈ vs, ∃ x t, v = Value.str x t
  | _, _, .nil => ⟨rfl, fun v h => absurd h List.not_mem_nil⟩
  | _, _, .cons n t r => by
    obtain ⟨h1, h2⟩ := strs_shape r
    refine ⟨by rw [List.map_cons, ← h1] <;> rfl, fun v hv => ?_⟩
    rcases List.mem_cons.mp hv with e | hv
    · exact ⟨n, t, e⟩
    · exact h2 v hv
theorem strs_back : ∀ {vs : List Value}, (∀ v ∈ vs, ∃ x t, v = Value.str x t) → Vals ((vs.map strOf).map V.str) vs
  | [], _ => .nil
  | v :: vs, h => by
    obtain ⟨x, t, e⟩ := h v List.mem_cons_self
    subst e
    exact .cons ⟨t, rfl⟩ (strs_back fun u hu => h u (List.mem_cons_of_mem _ hu))
theorem str_cmp {vs : List Value} (hp : ∀ v ∈ vs, ∃ x t, v = Value.str x t) : SrtO.Cmp prog w A s oneType' (fun p => p.1 ∈ vs) (SrtO.lt2 fun v u => ltS (strOf v) (strOf u)) := by
  intro p q hm hm'
  obtain ⟨a, t, e⟩ := hp _ hm
  obtain ⟨b, u, e'⟩ := hp _ hm'
  show wpAny (model prog w) A (keyLt' oneType' p.1 q.1) (fun r s' => s' = s ∧ r = ltS (strOf p.1) (strOf q.1)) (fun _ _ => False) s
  rw [e, e', keyLt'_oneType]
  exact oneLt_str ⟨rfl, rfl⟩
theorem strs_sortableO {a : Addr} {vs : List Value} {xs : List Str} (hS : StrsAre vs xs) (h2 : 2 ≤ vs.length) : SrtO.SortableO prog w A s a vs fun v u => ltS (strOf v) (strOf u) := by
  intro h' _
  refine ⟨oneType', fun Q E hq => ?_, str_cmp (strs_shape hS).2⟩
  match vs, hS, h2 with
  | v1 :: v2 :: rest, hS, _ =>
    rw [keyKind_strs hS]
    exact wpAny_pure hq
  | [], _, h => exact absurd h (by decide)
  | [v], _, h => exact absurd h (by simp)

/-! ### triples -/
def triOf (h : Heap) : Value → Tri
  | .ref a => match h.get? a with
    | some o => match o.data with
      | .seq xs _ => (strOf (xs.getD 0 .none), strOf (xs.getD 1 .none), SrtO.iv (xs.getD 2 .none))
      | _ => (Str.empty, Str.empty, 0)
    | none => (Str.empty, Str.empty, 0)
  | _ => (Str.empty, Str.empty, 0)
def IsTri (h : Heap) (v : Value) (k : Tri) : Prop := ∃ a o t u z n, v = .ref a ∧ h.get? a = some o ∧ o.cls = .type "tuple" ∧ o.data = .seq #[.str k.1 t, .str k.2.1 u, .int k.2.2 z] n
theorem IsTri.keeps {h h' : Heap} {v : Value} {k : Tri} (p : IsTri h v k) (e : ∀ b o, h.get? b = some o → o.cls = .type "tuple" → h'.get? b = some o) : IsTri h' v k := by
  obtain ⟨a, o, t, u, z, n, ev, ho, hc, hd⟩ := p
  exact ⟨a, o, t, u, z, n, ev, e _ _ ho hc, hc, hd⟩
theorem IsTri.told {h : Heap} {v : Value} {k : Tri} (p : IsTri h v k) : triOf h v = k := by
  obtain ⟨a, o, t, u, z, n, rfl, ho, hc, hd⟩ := p
  simp only [triOf, ho, hd]
  rfl
theorem firsts_tri {h : Heap} : ∀ {vs : List Value}, (∀ v ∈ vs, ∃ k, IsTri h v k) → ∃ fs : List Value, PySem.W.KatTups h vs fs ∧ fs.length = vs.length ∧ ∀ f ∈ fs, ∃ x t, f = Value.str x t
  | [], _ => ⟨[], PySem.W.KatTups.nil, rfl, fun _ hm => by simp at hm⟩
  | v :: vs, hp => by
    obtain ⟨fs, h1, h2, h3⟩ := firsts_tri (vs := vs) fun v' hm => hp v' (List.mem_cons_of_mem _ hm)
    obtain ⟨k, a, o, t, u, z, n, e, ho, hc, hd⟩ := hp v (List.mem_cons_self ..)
    subst e
    refine ⟨.str k.1 t :: fs, PySem.W.KatTups.cons ho hc hd rfl h1, by rw [List.length_cons, List.length_cons, h2], fun f hm => ?_⟩
    rcases List.mem_cons.mp hm with rfl | hm
    · exact ⟨_, t, rfl⟩
    · exact h3 f hm
theorem tri_cmp {vs : List Value} {k : Value → Tri} (hp : ∀ v ∈ vs, IsTri s.heap v (k v)) : SrtO.Cmp prog w A s (tuples' true) (fun p => p.1 ∈ vs) (SrtO.lt2 fun v u => ltT (k v) (k u)) := by
  intro p q hm hm'
  have h1 := hp _ hm
  have h2 := hp _ hm'
  show wpAny (model prog w) A (keyLt' (tuples' true) p.1 q.1) (fun r s' => s' = s ∧ r = ltT (k p.1) (k q.1)) (fun _ _ => False) s
  generalize k p.1 = x at h1 ⊢
  generalize k q.1 = y at h2 ⊢
  obtain ⟨x1, x2, x3⟩ := x
  obtain ⟨y1, y2, y3⟩ := y
  obtain ⟨a, o, t, u, z, n, e, ho, hc, hd⟩ := h1
  obtain ⟨a', o', t', u', z', n', e', ho', hc', hd'⟩ := h2
  rw [e, e']
  refine PySem.W.kat_lt ho hd ho' hd' ?_
  show PySem.W.KatLex prog w A true (decide (3 < 3)) _ [(.str x1 t, .str y1 t'), (.str x2 u, .str y2 u'), (.int x3 z, .int y3 z')] 0 s
  refine PySem.W.kat_cons (SeqAt.EqAt.str_str x1 t y1 t' prog w _ _ ?_)
  refine PySem.W.kat_go (fun e1 => ?_) (fun e1 => ?_)
  · have ex : x1 = y1 := eq_of_beq e1
    subst ex
    refine PySem.W.kat_yes (PySem.W.kat_cons (SeqAt.EqAt.str_str x2 u y2 u' prog w _ _ ?_))
    refine PySem.W.kat_go (fun e2 => ?_) (fun e2 => ?_)
    · have ey : x2 = y2 := eq_of_beq e2
      subst ey
      refine PySem.W.kat_yes (PySem.W.kat_cons (SeqAt.EqAt.int_int x3 z y3 z' prog w _ _ ?_))
      refine PySem.W.kat_go (fun e3 => ?_) (fun e3 => ?_)
      · have ez : x3 = y3 := by simpa using e3
        subst ez
        exact PySem.W.kat_yes (PySem.W.kat_nil ⟨rfl, (lin_tri.irr _).symm⟩)
      · refine PySem.W.kat_no (oneLt_any_int ⟨rfl, ?_⟩)
        simp only [ltT, lexP, if_true, ltI]
    · have ey : ¬ x2 = y2 := by
        intro z
        rw [z] at e2
        simp at e2
      refine PySem.W.kat_no (oneLt_any_str ⟨rfl, ?_⟩)
      simp only [ltT, lexP, if_true, if_neg ey, ltS]
  · have ex : ¬ x1 = y1 := by
      intro z
      rw [z] at e1
      simp at e1
    refine PySem.W.kat_no (oneLt_any_str ⟨rfl, ?_⟩)
    simp only [ltT, lexP, if_neg ex, ltS]
theorem tris_sortableO {a : Addr} {vs : List Value} {k : Value → Tri} (h0 : 0 < vs.length) (hp : ∀ v ∈ vs, IsTri s.heap v (k v)) (ha : ∀ o, s.heap.get? a = some o → o.cls ≠ .type "tuple") : SrtO.SortableO prog w A s a vs fun v u => ltT (k v) (k u) := by
  intro h' keep
  have hp' : ∀ v ∈ vs, IsTri h' v (k v) := fun v hm => (hp v hm).keeps fun b o e c => keep b o (fun z => by subst z; exact ha o e c) e
  obtain ⟨fs, h1, h2, h3⟩ := firsts_tri fun v hm => ⟨_, hp' v hm⟩
  refine ⟨tuples' true, fun Q E hq => ?_, tri_cmp hp'⟩
  refine PySem.W.kat_kind (T := .type "str") h1 (by omega) (fun f hm => ?_) (by rfl) ?_
  · obtain ⟨x, t, rfl⟩ := h3 f hm
    exact PySem.W.Looks.now
  · have e : (Value.type "str" != Value.type "tuple") = true := by first | decide +kernel | rfl | decide
    rw [e]
    exact hq
end

/-! ### as rules -/
def SeqE (K : PySem.W.Frag) (H : Hp) (a : Addr) (xs : List V) : Prop := SqL K H a xs ∨ SqT K H a xs
/-- a tuple (text, text, number) -/
def TriAt (K : PySem.W.Frag) (H : Hp) (p : Addr × Tri) : Prop := SqT K H p.1 [.str p.2.1, .str p.2.2.1, .int p.2.2.2]
def rSortTx (K : PySem.W.Frag) : List V → Hp → VK → Prop := fun vs H Q => ∃ (a : Addr) (xs : List Str), vs = [V.ref a] ∧ SeqE K H a (xs.map V.str) ∧
  ∀ (ys : List Str) (p : Addr), ys.Perm xs → Asc ltS ys → H p = none → Q (.ref p) (upd H p (.lst (ys.map V.str)))
def rSortTri (K : PySem.W.Frag) : List V → Hp → VK → Prop := fun vs H Q => ∃ (a : Addr) (ks : List (Addr × Tri)), vs = [V.ref a] ∧ SeqE K H a (ks.map fun p => V.ref p.1) ∧ (∀ p ∈ ks, TriAt K H p) ∧
  ∀ (ys : List (Addr × Tri)) (p : Addr), ys.Perm ks → Asc ltT (ys.map (·.2)) → H p = none → Q (.ref p) (upd H p (.lst (ys.map fun p => V.ref p.1)))
section
variable {X : Cx}
theorem seqE_at {pins : List (Addr × Obj)} {σ : L2.St} {H : Hp} {s : Shared} {a : Addr} {xs : List V} (I : Inv X pins σ H s) (h : SeqE X.K H a xs) :
    ∃ (its : List Value) (T : String) (o : Obj) (n : Nat), Vals xs its ∧ (T = "list" ∨ T = "tuple") ∧ s.heap.get? a = some o ∧ o.cls = .type T ∧ o.data = .seq its.toArray n ∧ xs.length ≤ sizeLine := by
  rcases h with h | h
  · obtain ⟨its, r, pl, hz⟩ := I.list h
    obtain ⟨o, ho, hc, n, hd⟩ := pl.isList
    exact ⟨its, _, o, n, r, .inl rfl, ho, hc, hd, hz⟩
  · obtain ⟨its, r, ⟨o, ho, hc, n, hd⟩, hz⟩ := I.tuple h
    exact ⟨its, _, o, n, r, .inr rfl, ho, hc, hd, hz⟩
theorem cr_sortTx : CallR X (.builtin "sorted") (rSortTx X.K) := by
  intro pins s σ H vs us Q I r h
  obtain ⟨a, xs, rfl, hs, q⟩ := h
  obtain ⟨its, T, o, n, rv, hT, ho, hc, hd, hz⟩ := seqE_at I hs
  rw [Vals.ref1 r]
  have hi := rv.strs
  obtain ⟨e1, e2⟩ := strs_shape hi
  refine sorted_coll (lin_str.swo strOf) hT ho hc hd (by rw [← rv.length]; exact hz) (fun h2 h₁ a' _ _ => strs_sortableO hi h2) fun out h1 h' d hs hb k1 k2 hle hn => ?_
  have h3 : ∀ u ∈ out, ∃ x t, u = Value.str x t := fun u hu => e2 u (hb.perm.mem_iff.mp hu)
  have I1 : Inv X pins σ H { s with heap := h1 } := I.kept (t' := s.toks) k1
  obtain ⟨ep, he'⟩ := hn
  have hp : (out.map strOf).Perm xs := by
    rw [e1]
    exact hb.perm.map strOf
  have hlen : ((out.map strOf).map V.str).length ≤ sizeLine := by
    rw [List.length_map, hp.length_eq]
    rw [List.length_map] at hz
    exact hz
  exact ⟨.ref d, upd H d (.lst ((out.map strOf).map V.str)), I1.laid (t' := s.toks) k2 hle ⟨hlen, out, ep, strs_back h3, he'⟩, rfl, q _ d hp (List.pairwise_map.mpr hs) (I1.hok.fresh hle)⟩
theorem tri_raw {pins : List (Addr × Obj)} {σ : L2.St} {H : Hp} {s : Shared} {p : Addr × Tri} (I : Inv X pins σ H s) (h : TriAt X.K H p) : IsTri s.heap (.ref p.1) p.2 := by
  obtain ⟨its, r, ⟨o, ho, hc, n, hd⟩, hz⟩ := I.tuple h
  cases r with
  | cons r1 r =>
    cases r with
    | cons r2 r =>
      cases r with
      | cons r3 r =>
        cases r
        obtain ⟨t, rfl⟩ := r1
        obtain ⟨u, rfl⟩ := r2
        obtain ⟨z, rfl⟩ := r3
        exact ⟨_, o, t, u, z, n, rfl, ho, hc, hd⟩
def addrOf : Value → Addr
  | .ref a => a
  | _ => 0
theorem refs_are : ∀ {ks : List (Addr × Tri)} {us : List Value}, Vals (ks.map fun p => V.ref p.1) us → us = ks.map fun p => Value.ref p.1
  | [], _, .nil => rfl
  | p :: ks, _, .cons r t => by
    cases r
    rw [refs_are t] <;> rfl
theorem refs_vals : ∀ (ks : List (Addr × Tri)), Vals (ks.map fun p => V.ref p.1) (ks.map fun p => Value.ref p.1)
  | [] => .nil
  | p :: ks => .cons rfl (refs_vals ks)
theorem cr_sortTri : CallR X (.builtin "sorted") (rSortTri X.K) := by
  intro pins s σ H vs us Q I r h
  obtain ⟨a, ks, rfl, hs, hk, q⟩ := h
  obtain ⟨its, T, o, n, rv, hT, ho, hc, hd, hz⟩ := seqE_at I hs
  rw [Vals.ref1 r]
  have ei := refs_are rv
  have tr : ∀ p ∈ ks, IsTri s.heap (.ref p.1) p.2 := fun p hp => tri_raw I (hk p hp)
  have ek : its.map (fun u => (addrOf u, triOf s.heap u)) = ks := by
    rw [ei, List.map_map]
    refine (List.map_congr_left fun p hp => ?_).trans (List.map_id _)
    show (p.1, triOf s.heap (.ref p.1)) = p
    rw [(tr p hp).told]
  have e2 : ∀ v ∈ its, IsTri s.heap v (triOf s.heap v) := fun v hv => by
    rw [ei] at hv
    obtain ⟨p, hp, rfl⟩ := List.mem_map.mp hv
    have q := tr p hp
    rw [q.told]
    exact q
  refine sorted_coll (lin_tri.swo (triOf s.heap)) hT ho hc hd (by rw [← rv.length]; exact hz) (fun h2 h₁ a' ha kk => ?_) fun out h1 h' d hs hb k1 k2 hle hn => ?_
  · refine tris_sortableO (s := { s with heap := h₁ }) (by omega) (fun v hm => (e2 v hm).keeps fun b o e _ => (kk b o e).2) fun o e => ?_
    have e' : some o = some (seqObj "list" its.toArray 0) := e.symm.trans ha
    cases e'
    intro c
    exact absurd (Value.type.inj c) (by decide)
  · have I1 : Inv X pins σ H { s with heap := h1 } := I.kept (t' := s.toks) k1
    obtain ⟨ep, he'⟩ := hn
    have hp : (out.map fun u => (addrOf u, triOf s.heap u)).Perm ks := by
      rw [← ek]
      exact hb.perm.map _
    have eo : out = (out.map fun u => (addrOf u, triOf s.heap u)).map fun p => Value.ref p.1 := by
      rw [List.map_map]
      refine ((List.map_congr_left fun u hu => ?_).trans (List.map_id _)).symm
      obtain ⟨a, o, t, u, z, n, rfl, _⟩ := e2 u (hb.perm.mem_iff.mp hu)
      rfl
    have hv : Vals ((out.map fun u => (addrOf u, triOf s.heap u)).map fun p => V.ref p.1) out := by
      have q := refs_vals (out.map fun u => (addrOf u, triOf s.heap u))
      rw [← eo] at q
      exact q
    have hlen : ((out.map fun u => (addrOf u, triOf s.heap u)).map fun p => V.ref p.1).length ≤ sizeLine := by
      rw [List.length_map, hp.length_eq]
      rw [List.length_map] at hz
      exact hz
    refine ⟨.ref d, upd H d (.lst ((out.map fun u => (addrOf u, triOf s.heap u)).map fun p => V.ref p.1)), I1.laid (t' := s.toks) k2 hle ⟨hlen, out, ep, hv, he'⟩, rfl, q _ d hp ?_ (I1.hok.fresh hle)⟩
    rw [List.map_map]
    exact List.pairwise_map.mpr hs
end
end Vf

set_option Elab.async false
set_option linter.all false
set_option maxRecDepth 100000
set_option maxHeartbeats 4000000
/-! sets whose members are tuples of plain things of any kind: what adding one does -/
namespace Vf
open PySem PySem.Spec PyProof.Rows L2

/-- members of such tuples are values of no class statement, hashed by value -/
structure PlainKind {P : Program} {w : World} {κ : Type} [DecidableEq κ] (knd : KeyKind P w κ) : Prop where
  cls : ∀ k v n, knd.is k v = true → ofAClassStatement n v = pure false
  byv : ∀ k v n, knd.is k v = true → ∃ b, hashByValue n v = pure b
theorem plain_mix {P : Program} {w : World} : PlainKind (mixKind P w) := by
  refine ⟨fun k v n h => ?_, fun k v n h => ?_⟩ <;> rcases keyIs_shape h with ⟨i, t, rfl, rfl⟩ | ⟨x, t, rfl, rfl⟩ <;> cases n <;> first | rfl | exact ⟨_, rfl⟩

section
variable {P : Program} {w : World} {κ : Type} [DecidableEq κ] {knd : KeyKind P w κ} (pk : PlainKind knd) {A : Around} {E : Value → Shared → Prop} {s : Shared}

/-- each item of a list of keys' values is told by some key -/
theorem items_some {k : List κ} {vs : List Value} (h : ItemsAre knd k vs) : ∀ v ∈ vs, ∃ x, knd.is x v = true := by
  induction h with
  | nil => exact fun v hv => nomatch hv
  | @cons x u xs us h1 _ ih =>
    intro v hv
    cases hv with
    | head => exact ⟨x, h1⟩
    | tail _ hv => exact ih v hv
include pk
theorem tk_cls {k : List κ} {b : Addr} {Q : Bool → Shared → Prop} (hb : IsTupleKey knd s.heap k b) (h : Q false s) : wpAny (model P w) A (ofAClassStatement 8 (.ref b)) Q E s := by
  have hT := hb.typeIs
  obtain ⟨o, its, n, ho, hc, hd, hi⟩ := hb
  have all := items_some hi
  unfold ofAClassStatement
  refine wpAny_bind (wpAny_typeOf hT ?_)
  have e : (("tuple" : String) == "tuple") = true := by decide
  simp only [e, if_true, Bool.not_true, Bool.false_eq_true, if_false]
  try refine wpAny_bind (wpAny_pure ?_)
  try simp only [Bool.not_true, Bool.false_eq_true, if_false]
  refine wpAny_bind (wpAny_seqItems ho hd ?_)
  refine wpAny_bind ?_
  show wpAny _ _ (forIn its _ _) _ _ s
  rw [← Array.forIn_toList]
  refine wpAny_forIn_list _ (fun rest r z => r.1 = none ∧ z = s ∧ ∀ v ∈ rest, ∃ x, knd.is x v = true) _ ?_ ?_ _ _ ⟨rfl, rfl, all⟩
  · rintro v rest r z ⟨hr, rfl, q⟩
    obtain ⟨x, hx⟩ := q v List.mem_cons_self
    rw [pk.cls x v _ hx]
    refine wpAny_bind (wpAny_pure ?_)
    simp only [Bool.false_eq_true, if_false]
    exact wpAny_pure ⟨rfl, rfl, fun u hu => q u (List.mem_cons_of_mem _ hu)⟩
  · rintro ⟨r1, r2⟩ z ⟨hr, rfl, _⟩
    have hr' : r1 = none := hr
    subst hr'
    exact wpAny_pure h
theorem tk_byv {k : List κ} {b : Addr} {Q : Bool → Shared → Prop} (hb : IsTupleKey knd s.heap k b) (h : ∀ y, Q y s) : wpAny (model P w) A (hashByValue 8 (.ref b)) Q E s := by
  have hT := hb.typeIs
  obtain ⟨o, its, n, ho, hc, hd, hi⟩ := hb
  have all := items_some hi
  unfold hashByValue
  refine wpAny_bind (wpAny_specialOf hT F.slot_tuple_hash.lookup ?_)
  refine wpAny_bind (wpAny_seqItems ho hd ?_)
  refine wpAny_bind ?_
  show wpAny _ _ (forIn its _ _) _ _ s
  rw [← Array.forIn_toList]
  refine wpAny_forIn_list _ (fun rest r z => r.1 = none ∧ z = s ∧ ∀ v ∈ rest, ∃ x, knd.is x v = true) _ ?_ ?_ _ _ ⟨rfl, rfl, all⟩
  · rintro v rest r z ⟨hr, rfl, q⟩
    obtain ⟨x, hx⟩ := q v List.mem_cons_self
    obtain ⟨y, hy⟩ := pk.byv x v _ hx
    rw [hy]
    refine wpAny_bind (wpAny_pure ?_)
    cases y with
    | true =>
      simp only [Bool.not_true, Bool.false_eq_true, if_false]
      exact wpAny_pure ⟨rfl, rfl, fun u hu => q u (List.mem_cons_of_mem _ hu)⟩
    | false =>
      simp only [Bool.not_false, if_true]
      exact wpAny_pure (wpAny_pure (h false))
  · rintro ⟨r1, r2⟩ z ⟨hr, rfl, _⟩
    have hr' : r1 = none := hr
    subst hr'
    exact wpAny_pure (h true)
theorem tk_seen {k : List κ} {b : Addr} {Q : Bool → Shared → Prop} (hb : IsTupleKey knd s.heap k b) {ys : List Value} (hy : ∀ y ∈ ys, ∃ k' c, y = Value.ref c ∧ IsTupleKey knd s.heap k' c) (h : Q false s) :
    wpAny (model P w) A (searchCouldBeSeen (.ref b) ys) Q E s := by
  unfold searchCouldBeSeen
  refine wpAny_bind ?_
  refine wpAny_forIn_list _ (fun rest r z => r.1 = none ∧ z = s ∧ ∀ y ∈ rest, ∃ k' c, y = Value.ref c ∧ IsTupleKey knd s.heap k' c) _ ?_ ?_ _ _ ⟨rfl, rfl, hy⟩
  · rintro v rest r z ⟨hr, rfl, q⟩
    obtain ⟨k', c, rfl, hc⟩ := q v List.mem_cons_self
    have q' : ∀ y ∈ rest, ∃ k' c, y = Value.ref c ∧ IsTupleKey knd z.heap k' c := fun u hu => q u (List.mem_cons_of_mem _ hu)
    by_cases hv : (b == c || (carriedByValue (.ref b) && carriedByValue (.ref c))) = true
    · exact wp_if_pos hv (wpAny_pure ⟨rfl, rfl, q'⟩)
    · refine wp_if_neg hv ?_
      refine wpAny_bind (wpAny_eqIsQuiet_tuple hb ?_)
      simp only [Bool.not_true, Bool.false_eq_true, if_false]
      refine wpAny_bind (wpAny_eqIsQuiet_tuple hc ?_)
      simp only [Bool.not_true, Bool.false_eq_true, if_false]
      refine wpAny_bind (tk_cls pk hb ?_)
      simp only [Bool.false_eq_true, if_false]
      refine wpAny_bind (tk_cls pk hc ?_)
      simp only [Bool.false_eq_true, if_false]
      exact wpAny_pure ⟨rfl, rfl, q'⟩
  · rintro ⟨r1, r2⟩ z ⟨hr, rfl, _⟩
    have hr' : r1 = none := hr
    subst hr'
    exact wpAny_pure h
omit pk

/-! ### the table of such a set -/
abbrev hashes (knd : KeyKind P w κ) (L : List (Addr × List κ)) : List Int := L.map fun p => tupleKeyHash knd p.2
def entries (knd : KeyKind P w κ) (L : List (Addr × List κ)) : List (Int × Value) := L.map fun p => (tupleKeyHash knd p.2, Value.ref p.1)
structure TsAt (knd : KeyKind P w κ) (h : Heap) (a : Addr) (L : List (Addr × List κ)) (es : Array (Int × Value)) (ep : Nat) (t : SetTable) : Prop where
  obj : ∃ o, h.get? a = some o ∧ o.ExactSet ∧ o.data = .set es ep t
  ent : es.toList = entries knd L
  ok : TabOk t (hashes knd L)
  dis : (L.map (·.2)).Nodup
  tups : ∀ p ∈ L, IsTupleKey knd h p.2 p.1
  ld : w.params.followText "set-order" = true ∨ t.led = true
  rm : L.length * 5 < t.mask * 3
  lt : L.length < 64
variable {a : Addr} {L : List (Addr × List κ)} {es : Array (Int × Value)} {ep : Nat} {t : SetTable}
theorem ents_len {L : List (Addr × List κ)} {es : Array (Int × Value)} (h : es.toList = entries knd L) : es.size = L.length := by
  rw [← Array.length_toList, h]
  exact List.length_map _
theorem ents_at {L : List (Addr × List κ)} {es : Array (Int × Value)} (h : es.toList = entries knd L) {i : Nat} {p : Addr × List κ} (e : L[i]? = some p) : es[i]? = some (tupleKeyHash knd p.2, Value.ref p.1) := by
  rw [← Array.getElem?_toList, h]
  unfold entries
  rw [List.getElem?_map, e] <;> rfl
theorem TsAt.fits (R : TsAt knd s.heap a L es ep t) : t.fits es.size = true := by
  have h1 : t.place.size = L.length := R.ok.sz.trans (List.length_map _)
  have h2 := ents_len R.ent
  have h3 := R.rm
  unfold SetTable.fits SetTable.fill
  rw [R.ok.dm, Bool.and_eq_true, beq_iff_eq, decide_eq_true_eq]
  show t.place.size = es.size ∧ t.place.size + 0 ≤ t.mask
  omega
theorem TsAt.keep {h h' : Heap} (R : TsAt knd h a L es ep t) (k : ∀ b o, h.get? b = some o → h'.get? b = some o) : TsAt knd h' a L es ep t := by
  obtain ⟨o, ho, r⟩ := R.obj
  refine ⟨⟨o, k _ _ ho, r⟩, R.ent, R.ok, R.dis, fun p hp => ?_, R.ld, R.rm, R.lt⟩
  obtain ⟨o, its, n, ho, r⟩ := R.tups p hp
  exact ⟨o, its, n, k _ _ ho, r⟩
theorem tsAt_new {h : Heap} (ho : h.get? a = some { cls := .type "set", dict := none, data := .set #[] 0 (.fresh 0 0 (!w.params.followText "set-order")) }) : TsAt knd h a [] #[] 0 (.fresh 0 0 (!w.params.followText "set-order")) := by
  refine ⟨⟨_, ho, ⟨rfl, rfl, rfl⟩, rfl⟩, rfl, ⟨List.Pairwise.nil, rfl, rfl, .inl rfl, fun x hx => (nomatch hx), fun i h j hi => (by cases hi)⟩, List.nodup_nil, fun p hp => (nomatch hp), ?_, (by show 0 * 5 < 7 * 3; decide), (by show 0 < 64; decide)⟩
  show _ ∨ (!w.params.followText "set-order") = true
  cases w.params.followText "set-order"
  · exact .inr rfl
  · exact .inl rfl
theorem tup_past {h h' : Heap} {k : List κ} {b : Addr} {o : Obj} (hb : IsTupleKey knd h k b) (ho : h.get? a = some o) (hd : o.data = .set es ep t) (hs : Heap.SameBut a h h') : IsTupleKey knd h' k b := by
  obtain ⟨o', its, n, ho', r1, hd', r2⟩ := hb
  refine ⟨o', its, n, (hs.2 b fun z => ?_).trans ho', r1, hd', r2⟩
  subst z
  rw [ho] at ho'
  cases ho'
  rw [hd] at hd'
  cases hd'

/-- the probe as it stands behind c steps has met no dummy -/
theorem nth_dummy (m : Nat) : ∀ (n : Nat) (p : SetTable.Probe), p.dummy = none → (nth m p n).dummy = none
  | 0, _, h => h
  | n + 1, p, h => nth_dummy m n (adv m p) (by unfold adv; split <;> exact h)
include pk
/-- looking for the tuple k at x: from the c-th place of its way on; K is the first free one -/
theorem ts_look (R : TsAt knd s.heap a L es ep t) {x : Addr} {k : List κ} (hx : IsTupleKey knd s.heap k x) (hu : A.units < cLine) {K : Nat} (hf : K < 10 * SetTable.turns t.mask)
    (hK : way t.mask (tupleKeyHash knd k) K ∉ t.place.toList) (hb : ∀ c, c < K → way t.mask (tupleKeyHash knd k) c ∈ t.place.toList) {Q : SetFound → Shared → Prop}
    (hin : k ∈ L.map (·.2) → Q (.there none) s) (hout : k ∉ L.map (·.2) → Q (.free (way t.mask (tupleKeyHash knd k) K) false) s) :
    ∀ (f c : Nat) (st : Option SetTable.Probe), st.getD (t.probeStart (tupleKeyHash knd k)) = nth t.mask (runAt t.mask (SetTable.bits (tupleKeyHash knd k) % (t.mask + 1)) (SetTable.bits (tupleKeyHash knd k))) c → c ≤ K → K - c < f →
      (∀ (i : Nat) p, L[i]? = some p → p.2 = k → ∃ d, c ≤ d ∧ d < K ∧ t.place.toList[i]? = some (way t.mask (tupleKeyHash knd k) d)) → wpAny (model P w) A (setSearchFrom a (.ref x) (tupleKeyHash knd k) true f st) Q E s := by
  obtain ⟨o, ho, hex, hd⟩ := R.obj
  have big : ¬ t.gaveWay = true := by
    unfold SetTable.gaveWay
    rw [mask_odd R.ok.mok]
    decide
  have hLp : t.place.toList.length = L.length := by
    rw [Array.length_toList]
    exact R.ok.sz.trans (List.length_map _)
  intro f
  induction f with
  | zero => exact fun c st _ _ z _ => absurd z (Nat.not_lt_zero _)
  | succ f ih =>
    intro c st hst hc hfc hre
    rw [setSearchFrom_succ]
    refine wpAny_bind (wpAny_setState_of ho hd R.fits ?_)
    refine wp_if_neg big ?_
    try refine wpAny_bind (wpAny_pure ?_)
    generalize hh : tupleKeyHash knd k = hv at hst hre hK hb hin hout ih ⊢
    generalize hp0 : runAt t.mask (SetTable.bits hv % (t.mask + 1)) (SetTable.bits hv) = p0 at hst ih
    have hw : ∀ q, (nth t.mask p0 q).j = way t.mask hv q := fun q => by
      rw [← hp0]
    have hj : ∀ q, (nth t.mask (nth t.mask p0 c) q).j = way t.mask hv (c + q) := fun q => by
      rw [← nth_add]
      exact hw _
    have nod : (nth t.mask p0 c).dummy = none := nth_dummy _ _ _ (by rw [← hp0]; rfl)
    have hashOf : ∀ (i : Nat) p, L[i]? = some p → (fun i => (es[i]?.map (·.1)).getD 0) i = tupleKeyHash knd p.2 := fun i p e => by
      show (es[i]?.map (·.1)).getD 0 = _
      rw [ents_at R.ent e] <;> rfl
    have ecK : c + (K - c) = K := by omega
    rcases go_spec t R.ok.ris R.ok.dm (fun i => (es[i]?.map (·.1)).getD 0) hv (10 * SetTable.turns t.mask) (K - c) _ nod (by omega) (fun q hq => by rw [hj]; exact hb (c + q) (by omega)) (by rw [hj, ecK]; exact hK) with ⟨q, i, hq, hi, hhi, hno, hpr⟩ | ⟨hno, hpr⟩
    · -- one of the same hash
      have e1 : t.probe (fun i => (es[i]?.map (·.1)).getD 0) hv (st.getD (t.probeStart hv)) = some (.candidate (way t.mask hv (c + q)) i (nth t.mask p0 (c + (q + 1)))) := by
        rw [hst, ← hj, nth_add]
        exact hpr
      rw [e1]
      rw [hj] at hi
      have il : i < L.length := by
        rw [← hLp]
        exact lt_of_at hi
      have hp : L[i]? = some L[i] := List.getElem?_eq_getElem il
      generalize L[i] = p at hp
      have hpm : p ∈ L := List.mem_of_getElem? hp
      have live : t.slot (way t.mask hv (c + q)) = .live i := slot_live R.ok.ris hi
      have next : wpAny (model P w) A (searchRest a (.ref x) hv true f es t (way t.mask hv (c + q)) i (nth t.mask p0 (c + (q + 1)))) Q E s := by
        unfold searchRest
        rw [ents_at R.ent hp]
        refine wpAny_bind (wpAny_holding (wpAny_eqBool_tuple hu (R.tups p hpm) hx ?_))
        refine wpAny_bind (wpAny_setState_of ho hd R.fits ?_)
        by_cases hkk : p.2 = k
        · refine wp_if_pos (by simp [hkk]) (wpAny_pure (hin ?_))
          exact List.mem_map.mpr ⟨p, hpm, hkk⟩
        · refine wp_if_neg (by simp [hkk]) ?_
          try refine wpAny_bind (wpAny_pure ?_)
          rw [sameMem]
          simp only [if_true, live, ents_at R.ent hp]
          refine wpAny_bind (wpAny_isSame_ref_self (wpAny_bind (wpAny_pure ?_)))
          simp only [if_true]
          refine wp_if_neg (by simp [hkk]) ?_
          refine ih (c + (q + 1)) _ rfl (by omega) (by omega) fun j r hjr hrk => ?_
          obtain ⟨d, d1, d2, d3⟩ := hre j r hjr hrk
          refine ⟨d, ?_, d2, d3⟩
          have hrh := (hashOf j r hjr).trans ((congrArg (tupleKeyHash knd) hrk).trans hh)
          rcases Nat.lt_trichotomy d (c + q) with z | z | z
          · exact absurd hrh (hno (d - c) j (by omega) (by rw [hj, show c + (d - c) = d by omega]; exact d3))
          · rw [z] at d3
            have s0 := slot_live R.ok.ris d3
            rw [live] at s0
            injection s0 with s0
            rw [← s0, hp] at hjr
            exact absurd ((congrArg Prod.snd (Option.some.inj hjr)).trans hrk) hkk
          · omega
      by_cases hl : t.led = true
      · refine wp_if_neg (by simp [hl]) ?_
        try refine wpAny_bind (wpAny_pure ?_)
        exact next
      · refine wp_if_pos (by simp [hl]) ?_
        refine wpAny_bind (tk_seen pk hx (fun y hy => ?_) ?_)
        · obtain ⟨e, he, ee⟩ := List.mem_map.mp hy
          have he1 : e ∈ es ∧ e.1 = hv := by simpa using he
          have he2 : e ∈ es.toList := by simpa using he1.1
          rw [R.ent] at he2
          obtain ⟨r, hr, er⟩ := List.mem_map.mp he2
          exact ⟨r.2, r.1, by rw [← ee, ← er], R.tups r hr⟩
        · refine wp_if_neg (by decide) ?_
          try refine wpAny_bind (wpAny_pure ?_)
          exact next
    · -- a free place
      have e1 : t.probe (fun i => (es[i]?.map (·.1)).getD 0) hv (st.getD (t.probeStart hv)) = some (.empty (way t.mask hv K) none) := by
        rw [hst]
        refine hpr.trans ?_
        rw [hj, ecK]
      rw [e1]
      refine wpAny_pure (hout fun hm => ?_)
      obtain ⟨r, hr, hrk⟩ := List.mem_map.mp hm
      obtain ⟨j, hj1, hj2⟩ := List.getElem_of_mem hr
      have hjr : L[j]? = some r := by rw [List.getElem?_eq_getElem hj1, hj2]
      obtain ⟨d, d1, d2, d3⟩ := hre j r hjr hrk
      exact hno (d - c) j (by omega) (by rw [hj, show c + (d - c) = d by omega]; exact d3) ((hashOf j r hjr).trans ((congrArg (tupleKeyHash knd) hrk).trans hh))
omit pk
end
end Vf

set_option Elab.async false
set_option linter.all false
set_option maxRecDepth 100000
set_option maxHeartbeats 4000000
namespace Vf
open PySem PySem.Spec PyProof.Rows L2

theorem range_all {α : Type} : ∀ L : List α, (List.range L.length).filterMap (fun i => L[i]?) = L
  | [] => rfl
  | x :: L => by
    rw [List.length_cons, List.range_succ_eq_map, List.filterMap_cons, List.filterMap_map]
    show x :: _ = _
    exact congrArg (x :: ·) (range_all L)
theorem picks_map {α β : Type} (f : α → β) (L : List α) : ∀ l : List Nat, l.filterMap (fun i => (L.map f)[i]?) = (l.filterMap fun i => L[i]?).map f
  | [] => rfl
  | i :: l => by
    rw [List.filterMap_cons, List.filterMap_cons, List.getElem?_map]
    cases L[i]? with
    | none => exact picks_map f L l
    | some x => exact congrArg (f x :: ·) (picks_map f L l)
theorem picks_full {α β : Type} (f : α → β) (L : List α) (g : Nat → β) (hg : ∀ i x, L[i]? = some x → g i = f x) : ∀ l : List Nat, (∀ i ∈ l, i < L.length) → (l.filterMap fun i => L[i]?).map f = l.map g
  | [], _ => rfl
  | i :: l, h => by
    have hi := List.getElem?_eq_getElem (h i List.mem_cons_self)
    rw [List.filterMap_cons, hi]
    show f (L[i]'(h i List.mem_cons_self)) :: _ = _
    rw [picks_full f L g hg l fun j hj => h j (List.mem_cons_of_mem _ hj), List.map_cons, hg i _ hi]

section
variable {P : Program} {w : World} {κ : Type} [DecidableEq κ] {knd : KeyKind P w κ} (pk : PlainKind knd) {A : Around} {E : Value → Shared → Prop} {s : Shared}
variable {a : Addr} {L : List (Addr × List κ)} {es : Array (Int × Value)} {ep : Nat} {t : SetTable}
include pk
theorem ts_search (R : TsAt knd s.heap a L es ep t) {x : Addr} {k : List κ} (hx : IsTupleKey knd s.heap k x) (hu : A.units < cLine) {Q : SetFound → Shared → Prop} (hin : k ∈ L.map (·.2) → Q (.there none) s)
    (hout : ∀ K, k ∉ L.map (·.2) → way t.mask (tupleKeyHash knd k) K ∉ t.place.toList → (∀ c, c < K → way t.mask (tupleKeyHash knd k) c ∈ t.place.toList) → Q (.free (way t.mask (tupleKeyHash knd k) K) false) s) :
    wpAny (model P w) A (setSearch a (.ref x) (tupleKeyHash knd k) true) Q E s := by
  have hr := R.rm
  obtain ⟨K, hf, hK, hb⟩ := R.ok.first (by rw [List.length_map]; omega) (tupleKeyHash knd k)
  have few : K < 100000 := by
    refine Nat.lt_trans hf ?_
    unfold SetTable.turns
    rcases R.ok.mok with e | e | e <;> omega
  refine ts_look pk R hx hu hf hK hb hin (fun z => hout K z hK hb) 100000 0 none rfl (Nat.zero_le _) (by omega) fun i p hp hpk => ?_
  have hi : (hashes knd L)[i]? = some (tupleKeyHash knd k) := by rw [List.getElem?_map, hp, ← hpk] <;> rfl
  have il : i < t.place.toList.length := by
    rw [Array.length_toList, R.ok.sz]
    exact lt_of_at hi
  have hj := List.getElem?_eq_getElem il
  obtain ⟨c, c1, c2⟩ := R.ok.before hK hi hj
  exact ⟨c, Nat.zero_le _, c1, by rw [hj, c2]⟩
omit pk
/-- the table laid anew, with more room -/
theorem ts_relay {o : Obj} (ho : s.heap.get? a = some o) (hex : o.ExactSet) (hd : o.data = .set es ep t) (hrow : es.toList = entries knd L) (hsz : t.place.size = es.size) (hdm : t.dummies = #[]) (hfl : es.size ≤ t.mask) (nd : (L.map (·.2)).Nodup)
    (tup : ∀ p ∈ L, IsTupleKey knd s.heap p.2 p.1) (ld : w.params.followText "set-order" = true ∨ t.led = true) (few : L.length < 64) {wanted M : Nat} (hw : SetTable.sizeAbove wanted - 1 = M) (hM : MaskOk M) (hw2 : SetTable.sizeAbove wanted ≤ 128) (hn : L.length * 5 < M * 3)
    {Q : Unit → Shared → Prop} (hQ : ∀ h' L' es' ep' t', Heap.SameBut a s.heap h' → TsAt knd h' a L' es' ep' t' → L'.Perm L → Q () { s with heap := h' }) : wpAny (model P w) A (setRelay a wanted) Q E s := by
  have hl := ents_len hrow
  have fits : t.fits es.size = true := by
    unfold SetTable.fits SetTable.fill
    rw [hdm, Bool.and_eq_true, beq_iff_eq, decide_eq_true_eq]
    show t.place.size = es.size ∧ t.place.size + 0 ≤ t.mask
    omega
  obtain ⟨t', order, e, hp, T, em, el, _, _⟩ := relaid_ok t (hs := es.map (·.1)) (wanted := wanted) hw hM (by rw [Array.size_map, hl]; omega)
  rw [Array.size_map, hl] at hp
  have inR : ∀ i ∈ order.toList, i < L.length := fun i hi => List.mem_range.mp (hp.mem_iff.mp hi)
  have esI : ∀ i, es[i]? = (entries knd L)[i]? := fun i => by rw [← hrow, Array.getElem?_toList]
  have r1 : (order.filterMap (es[·]?)).toList = entries knd (order.toList.filterMap fun i => L[i]?) := by
    rw [Array.toList_filterMap]
    have q : (fun i => es[i]?) = fun i => (L.map fun p => (tupleKeyHash knd p.2, Value.ref p.1))[i]? := funext esI
    show order.toList.filterMap (fun i => es[i]?) = _
    rw [q, picks_map]
    rfl
  have r2 : (order.toList.filterMap fun i => L[i]?).Perm L := by
    have q := hp.filterMap fun i => L[i]?
    rw [range_all] at q
    exact q
  have r3 : hashes knd (order.toList.filterMap fun i => L[i]?) = order.toList.map fun i => (es.map (·.1)).getD i 0 := by
    refine picks_full (fun p : Addr × List κ => tupleKeyHash knd p.2) L _ (fun i p hp' => ?_) _ inR
    have q : (es.map (·.1))[i]? = some (tupleKeyHash knd p.2) := by rw [Array.getElem?_map, ents_at hrow hp'] <;> rfl
    simp [Array.getD_eq_getD_getElem?, q]
  rw [← r3] at T
  generalize (order.toList.filterMap fun i => L[i]?) = L2 at r1 r2 T
  have sz2 : (order.filterMap (es[·]?)).size = es.size := by rw [ents_len r1, r2.length_eq, hl]
  rw [setRelay_eq]
  refine wpAny_bind (wpAny_setState_of ho hd fits ?_)
  refine wp_if_neg (by rw [sizeLine_eq]; omega) ?_
  try refine wpAny_bind (wpAny_pure ?_)
  rw [e]
  refine wpAny_bind ?_
  refine wp_if_neg (by rw [sz2]; simp) ?_
  try refine wpAny_bind (wpAny_pure ?_)
  refine wpAny_pure ?_
  refine wpAny_storeSet_of ho hd ?_ (by rw [sz2, hl, sizeLine_eq]; omega)
  have sb : Heap.SameBut a s.heap (s.heap.update a (Obj.putSet (order.filterMap (es[·]?)) t')) := Heap.SameBut.update ..
  refine hQ _ L2 (order.filterMap (es[·]?)) (ep + 1) t' sb ⟨⟨_, store_at ho hd, ⟨hex.1, hex.2.1, hex.2.2⟩, rfl⟩, r1, T, ?_, fun p hpm => tup_past (tup p (r2.mem_iff.mp hpm)) ho hd sb, by rw [el]; exact ld, ?_, by rw [r2.length_eq]; exact few⟩ r2
  · exact (r2.map (·.2)).nodup_iff.mpr nd
  · rw [r2.length_eq, em]
    exact hn
include pk
/-- a tuple is added -/
theorem ts_add (R : TsAt knd s.heap a L es ep t) {x : Addr} {k : List κ} (hx : IsTupleKey knd s.heap k x) (hu : A.units < cLine) (few : L.length + 1 < 64) {Q : Bool → Shared → Prop}
    (hQ : ∀ y h' L' es' ep' t', Heap.SameBut a s.heap h' → TsAt knd h' a L' es' ep' t' → (k ∈ L.map (·.2) → L' = L) → (k ∉ L.map (·.2) → L'.Perm ((x, k) :: L)) → Q y { s with heap := h' }) :
    wpAny (model P w) A (setAddHashed a (.ref x) (tupleKeyHash knd k)) Q E s := by
  obtain ⟨o, ho, hex, hd⟩ := R.obj
  have hl := ents_len R.ent
  have hr := R.rm
  unfold setAddHashed
  refine wpAny_holding ?_
  rw [show (100000 : Nat) = 99999 + 1 from rfl, setAddHashedIn_succ]
  refine wpAny_bind (wpAny_setState_of ho hd R.fits ?_)
  refine wp_if_neg (by simp [byScan, Value.scannable]) ?_
  try refine wpAny_bind (wpAny_pure ?_)
  refine wpAny_bind (ts_search pk R hx hu (fun hm => ?_) fun K hm hK hb => ?_)
  · exact wpAny_pure (hQ false s.heap L es ep t (Heap.SameBut.refl a s.heap) R (fun _ => rfl) fun z => absurd hm z)
  · refine wpAny_bind (wpAny_setState_of ho hd R.fits ?_)
    dsimp only
    obtain ⟨q1, q2, q3, q4, q5, q6, q7, q8, q9⟩ := R.ok.put hK hb
    generalize hpt : t.put (way t.mask (tupleKeyHash knd k) K) = pt at q1 q3 q4 q5 q6 q7 q8 q9 ⊢
    obtain ⟨t1, p⟩ := pt
    dsimp only at q1 q3 q4 q5 q6 q7 q8 q9 ⊢
    subst q1
    -- whichever it is of being carried by value: only the mark differs
    have rest : ∀ t2 : SetTable, t2.place = t1.place → t2.dummies = t1.dummies → t2.mask = t1.mask → t2.led = t1.led →
        wpAny (model P w) A (do
          storeSet a (SetTable.insertAt es (SetTable.below t.place (way t.mask (tupleKeyHash knd k) K)) (tupleKeyHash knd k, Value.ref x)) t2
          if !false && t2.tooFull then setRelay a (SetTable.grown (es.size + 1))
          return true) Q E s := by
      intro t2 z1 z2 z3 z4
      have T2 : TabOk t2 ((hashes knd L).take (SetTable.below t.place (way t.mask (tupleKeyHash knd k) K)) ++ tupleKeyHash knd k :: (hashes knd L).drop (SetTable.below t.place (way t.mask (tupleKeyHash knd k) K))) :=
        ⟨by rw [z1]; exact q3.ris, by rw [z2]; exact q3.dm, by rw [z1]; exact q3.sz, by rw [z3]; exact q3.mok, by rw [z1, z3]; exact q3.bd, by rw [z1, z3]; exact q3.reach⟩
      have hin : (SetTable.insertAt es (SetTable.below t.place (way t.mask (tupleKeyHash knd k) K)) (tupleKeyHash knd k, Value.ref x)).toList = entries knd (L.take (SetTable.below t.place (way t.mask (tupleKeyHash knd k) K)) ++ (x, k) :: L.drop (SetTable.below t.place (way t.mask (tupleKeyHash knd k) K))) := by
        rw [SetTable.toList_insertAt, R.ent]
        unfold entries
        rw [List.map_append, List.map_cons, List.map_take, List.map_drop]
      have fill2 : t2.fill = (hashes knd L).length + 1 := by
        rw [← q9]
        unfold SetTable.fill
        rw [z1, z2]
      generalize hpp : SetTable.below t.place (way t.mask (tupleKeyHash knd k) K) = p at T2 hin ⊢
      have pm := put_perm L p (x, k)
      have hhs : hashes knd (L.take p ++ (x, k) :: L.drop p) = (hashes knd L).take p ++ tupleKeyHash knd k :: (hashes knd L).drop p := by
        unfold hashes
        rw [List.map_append, List.map_cons, List.map_take, List.map_drop]
      rw [← hhs] at T2
      have nd1 : ((L.take p ++ (x, k) :: L.drop p).map (·.2)).Nodup := by
        refine (pm.map (·.2)).nodup_iff.mpr ?_
        rw [List.map_cons]
        exact List.nodup_cons.mpr ⟨hm, R.dis⟩
      generalize SetTable.insertAt es p (tupleKeyHash knd k, Value.ref x) = es1 at hin ⊢
      generalize L.take p ++ (x, k) :: L.drop p = L1 at pm T2 nd1 hin
      have hl1 : L1.length = L.length + 1 := pm.length_eq
      have he1 : es1.size = L.length + 1 := by rw [ents_len hin, hl1]
      refine wpAny_bind (wpAny_storeSet_of ho hd ?_ (by rw [he1, sizeLine_eq]; omega))
      have sb : Heap.SameBut a s.heap (s.heap.update a (Obj.putSet es1 t2)) := Heap.SameBut.update ..
      have ho1 := store_at (es' := es1) (t' := t2) ho hd
      generalize s.heap.update a (Obj.putSet es1 t2) = h1 at sb ho1 ⊢
      have tup1 : ∀ p ∈ L1, IsTupleKey knd h1 p.2 p.1 := fun p hp => by
        rcases List.mem_cons.mp (pm.mem_iff.mp hp) with e | hp
        · rw [e]
          exact tup_past hx ho hd sb
        · exact tup_past (R.tups p hp) ho hd sb
      have ld1 : w.params.followText "set-order" = true ∨ t2.led = true := by rw [z4, q5]; exact R.ld
      have full : t2.tooFull = decide (t2.fill * 5 ≥ t2.mask * 3) := rfl
      by_cases hf : t2.tooFull = true
      · first
          | (refine wpAny_bind ?_; refine wp_if_pos (by simp [hf]) ?_)
          | (refine wp_if_pos (by simp [hf]) ?_; refine wpAny_bind ?_)
        have hfull : (L.length + 1) * 5 ≥ t.mask * 3 := by
          have q := hf
          rw [full, decide_eq_true_eq, fill2, List.length_map, z3, q4] at q
          exact q
        rw [hl]
        have hps : t2.place.size = es1.size := by rw [T2.sz, List.length_map, hl1, he1]
        have two : (t.mask = 7 ∧ L.length = 4) ∨ (t.mask = 31 ∧ L.length = 18) := by
          rcases R.ok.mok with e | e | e <;> rw [e] at hfull hr
          · exact .inl ⟨e, by omega⟩
          · exact .inr ⟨e, by omega⟩
          · omega
        have go : ∀ M, SetTable.sizeAbove (SetTable.grown (L.length + 1)) - 1 = M → MaskOk M → SetTable.sizeAbove (SetTable.grown (L.length + 1)) ≤ 128 → (L.length + 1) * 5 < M * 3 →
            wpAny (model P w) A (setRelay a (SetTable.grown (L.length + 1))) (fun _ z => wpAny (model P w) A (pure true) Q E z) E { s with heap := h1 } := fun M m1 m2 m3 m4 =>
          ts_relay (s := { s with heap := h1 }) ho1 ⟨hex.1, hex.2.1, hex.2.2⟩ rfl hin hps T2.dm (by rw [he1, z3, q4]; rcases two with ⟨e, e2⟩ | ⟨e, e2⟩ <;> omega) nd1 tup1 ld1 (by rw [hl1]; exact few) m1 m2 m3 (by rw [hl1]; exact m4)
            fun h2 L2 es2 ep2 t2' sb2 R2 pm2 => wpAny_pure (hQ true h2 L2 es2 ep2 t2' (sb.trans sb2) R2 (fun z => absurd z hm) fun _ => pm2.trans pm)
        rcases two with ⟨_, e2⟩ | ⟨_, e2⟩
        · exact go 31 (by rw [e2, size_20]) (.inr (.inl rfl)) (by rw [e2, size_20]; decide) (by omega)
        · exact go 127 (by rw [e2, size_76]) (.inr (.inr rfl)) (by rw [e2, size_76]; decide) (by omega)
      · first
          | refine wp_if_neg (by simp [hf]) ?_
          | (refine wpAny_bind ?_; refine wp_if_neg (by simp [hf]) ?_; refine wpAny_pure ?_)
        refine wpAny_pure (hQ true h1 L1 es1 (ep + 1) t2 sb ⟨⟨_, ho1, ⟨hex.1, hex.2.1, hex.2.2⟩, rfl⟩, hin, T2, nd1, tup1, ld1, ?_, by rw [hl1]; exact few⟩ (fun z => absurd z hm) fun _ => pm)
        have q := hf
        rw [full, decide_eq_true_eq, fill2, List.length_map] at q
        rw [hl1]
        omega
    by_cases hpl : t1.plain = true
    · first
        | (refine wpAny_bind ?_; refine wp_if_pos hpl ?_; refine tk_byv pk hx fun y => ?_)
        | refine wp_if_pos hpl (wpAny_bind (tk_byv pk hx fun y => ?_))
      cases y with
      | true => exact rest t1 rfl rfl rfl rfl
      | false => exact rest { t1 with plain := false } rfl rfl rfl rfl
    · first
        | (refine wpAny_bind ?_; refine wp_if_neg hpl (wpAny_pure ?_); exact rest t1 rfl rfl rfl rfl)
        | (refine wp_if_neg hpl ?_; exact rest t1 rfl rfl rfl rfl)
        | (refine wp_if_neg hpl (wpAny_bind (wpAny_pure ?_)); exact rest t1 rfl rfl rfl rfl)
omit pk
end
end Vf

set_option Elab.async false
set_option linter.all false
set_option maxRecDepth 100000
set_option maxHeartbeats 4000000
/-! lists and tuples alike; sets of tuples of keys made by a comprehension -/
namespace Vf
open PySem PySem.Spec PyProof.Rows L2

/-- a list (true), a tuple (false) -/
def SqB (b : Bool) (K : PySem.W.Frag) (H : Hp) (a : Addr) (xs : List V) : Prop := match b with
  | true => SqL K H a xs
  | false => SqT K H a xs
def ItB (b : Bool) (K : PySem.W.Frag) (a : Addr) : It := match b with
  | true => Itl K a
  | false => Itt K a
theorem SqB.any {b : Bool} {K : PySem.W.Frag} {H : Hp} {a : Addr} {xs : List V} (h : SqB b K H a xs) : SeqE K H a xs := by
  cases b
  · exact .inr h
  · exact .inl h
theorem seqB_of {K : PySem.W.Frag} {H : Hp} {a : Addr} {xs : List V} (h : SeqE K H a xs) : ∃ b, SqB b K H a xs := by
  rcases h with h | h
  · exact ⟨true, h⟩
  · exact ⟨false, h⟩
theorem same_seqB {b : Bool} {K : PySem.W.Frag} {H H' : Hp} {a : Addr} {xs : List V} (e : Same H H') (h : SqB b K H a xs) : SqB b K H' a xs := by
  cases b
  · exact same_seqT e h
  · exact e.seq h
theorem same_seqE {K : PySem.W.Frag} {H H' : Hp} {a : Addr} {xs : List V} (e : Same H H') (h : SeqE K H a xs) : SeqE K H' a xs := h.elim (fun h => .inl (e.seq h)) fun h => .inr (same_seqT e h)
/-- for x in xs, a list or a tuple -/
def iSeq (K : PySem.W.Frag) (te : TE) : TI := fun σ H R => te σ H fun x H1 => ∃ a b, x = .ref a ∧ (∃ xs, SqB b K H1 a xs) ∧ R (ItB b K a) H1
section
variable {X : Cx} {tg l : Expr} {tl : TE}
theorem pi_seq (hl : PE X l tl) : PI X tg l (iSeq X.K tl) := by
  refine ⟨fun pins s σ H R I h => ?_⟩
  refine thn (hl.run pins s σ H _ I h) fun v s1 ⟨x, H1, I1, r1, a, b, ex, ⟨xs, hq⟩, q⟩ => ?_
  subst ex
  cases r1
  have fresh_it : ∀ c ∈ [s1.heap.objs.size], FpOk X pins H1 c := fun c hc => by
    rw [List.mem_singleton.mp hc]
    exact I1.fpOk (Nat.le_refl _) (I1.hok.fresh (Nat.le_refl _))
  cases b with
  | true =>
    obtain ⟨its, rv, p, hz⟩ := I1.list hq
    exact wpAny_pyIter_list p.isList ⟨s1.heap.objs.size, [s1.heap.objs.size], _, _, H1, rfl, I1.kept (t' := s1.toks) fun b o e => Heap.get?_push_of_some _ e, turn_list a _, ⟨_, Heap.get?_push_size _ rfl, rfl, rfl⟩, fresh_it, q⟩
  | false =>
    obtain ⟨its, rv, p, hz⟩ := I1.tuple hq
    exact wpAny_pyIter_tuple (show s1.heap.IsTuple a its.toArray from p) ⟨s1.heap.objs.size, [s1.heap.objs.size], _, _, H1, rfl, I1.kept (t' := s1.toks) fun b o e => Heap.get?_push_of_some _ e, turn_tuple a _, ⟨_, Heap.get?_push_size _ rfl, rfl, rfl⟩, fresh_it, q⟩
end
theorem for_seq {b : Bool} {K : PySem.W.Frag} {a : Addr} {xs : List V} {g : TG} {tb : TS} {D : Ends} {σ : L2.St} {H : Hp} (Pv : Nat → L2.St → Hp → Prop) (h0 : Pv 0 σ H) (hl : ∀ i σ H, i ≤ xs.length → Pv i σ H → SqB b K H a xs)
    (hs : ∀ i x σ H, xs[i]? = some x → Pv i σ H → g x σ H fun σ2 H2 => tb { D with nx := Pv (i + 1), ct := Pv (i + 1), bk := D.nx } σ2 H2) (hd : ∀ σ H, Pv xs.length σ H → D.nx σ H) :
    ∃ W : Nat → Nat → L2.St → Hp → Prop, (∃ m, W 0 m σ H) ∧ ∀ i m σ H, W i m σ H →
      ((ItB b K a).stop i H ∧ D.nx σ H) ∨ ((ItB b K a).go i H ∧ ∃ N : L2.St → Hp → Prop, (∀ σ' H', N σ' H' → ∃ m', m' < m ∧ W (i + 1) m' σ' H') ∧ ∀ x H', (ItB b K a).yld i H x H' → g x σ H' fun σ2 H2 => tb { D with nx := N, ct := N, bk := D.nx } σ2 H2) := by
  cases b
  · exact for_tup Pv h0 hl hs hd
  · exact for_list Pv h0 hl hs hd
theorem lc_seq {b : Bool} {K : PySem.W.Frag} {a : Addr} {xs : List V} {g : TG} {tt : TT} {te : TE} {vs : List Nat} {σ : L2.St} {H1 : Hp} {D : Addr} {Qd : Hp → Prop} (Pv : Nat → Hp → Prop) (h0 : Pv 0 (upd H1 D (.lst []))) (hl : ∀ i H, i ≤ xs.length → Pv i H → SqB b K H a xs)
    (hs : ∀ i x H, xs[i]? = some x → Pv i H → g x (wipe σ vs) H fun σ2 H2 => wipe σ2 vs = wipe σ vs ∧ tt σ2 H2 fun c H3 =>
      if c = true then te σ2 H3 fun y H4 => ∃ acc, H4 D = some (.lst acc) ∧ acc.length < sizeLine ∧ Pv (i + 1) (upd H4 D (.lst (acc ++ [y]))) else Pv (i + 1) H3) (hd : ∀ H, Pv xs.length H → Qd H) :
    ∃ W : Nat → Nat → Hp → Prop, (∃ m, W 0 m (upd H1 D (.lst []))) ∧ ∀ i m H, W i m H →
      ((ItB b K a).stop i H ∧ Qd H) ∨ ((ItB b K a).go i H ∧ ∃ Nx : Hp → Prop, (∀ H', Nx H' → ∃ m', m' < m ∧ W (i + 1) m' H') ∧ ∀ x H', (ItB b K a).yld i H x H' → g x (wipe σ vs) H' fun σ2 H2 => wipe σ2 vs = wipe σ vs ∧ tt σ2 H2 fun c H3 =>
        if c = true then te σ2 H3 fun y H4 => ∃ acc, H4 D = some (.lst acc) ∧ acc.length < sizeLine ∧ Nx (upd H4 D (.lst (acc ++ [y]))) else Nx H3) := by
  cases b
  · exact lc_tup Pv h0 hl hs hd
  · exact lc_list Pv h0 hl hs hd

/-! ### sets of tuples of keys, as tracked things -/
abbrev TkP (P : Program) (w : World) : KeyKind P w Key := mixKind P w
/-- the set at a, its members told but not held -/
def Ts0 (P : Program) (w : World) (h : Heap) (a : Addr) (L : List (Addr × List Key)) : Prop :=
  ∃ (es : Array (Int × Value)) (ep : Nat) (t : SetTable), (∃ o, h.get? a = some o ∧ o.ExactSet ∧ o.data = .set es ep t) ∧ es.toList = entries (TkP P w) L ∧ TabOk t (hashes (TkP P w) L) ∧ (L.map (·.2)).Nodup ∧
    (w.params.followText "set-order" = true ∨ t.led = true) ∧ L.length * 5 < t.mask * 3 ∧ L.length < 64
def TsO (P : Program) (w : World) (a : Addr) (L : List (Addr × List Key)) : HO := .ext fun h => Ts0 P w h a L
theorem ts0_of {P : Program} {w : World} {h : Heap} {a : Addr} {L : List (Addr × List Key)} {es : Array (Int × Value)} {ep : Nat} {t : SetTable} (R : TsAt (TkP P w) h a L es ep t) : Ts0 P w h a L := ⟨es, ep, t, R.obj, R.ent, R.ok, R.dis, R.ld, R.rm, R.lt⟩
theorem ts0_full {P : Program} {w : World} {h : Heap} {a : Addr} {L : List (Addr × List Key)} (R : Ts0 P w h a L) (ht : ∀ p ∈ L, IsTupleKey (TkP P w) h p.2 p.1) : ∃ es ep t, TsAt (TkP P w) h a L es ep t := by
  obtain ⟨es, ep, t, h1, h2, h3, h4, h5, h6, h7⟩ := R
  exact ⟨es, ep, t, h1, h2, h3, h4, ht, h5, h6, h7⟩
theorem tsO_new {P : Program} {w : World} {H : Hp} {h : Heap} {a : Addr} {L : List (Addr × List Key)} (R : Ts0 P w h a L) : ObjOk P w H h a (TsO P w a L) := by
  have ⟨es, ep, t, ⟨o, ho, r⟩, q⟩ := R
  refine ⟨R, ⟨o, ho⟩, fun h1 h2 p k => ?_⟩
  have ⟨es', ep', t', ⟨o', ho', r'⟩, q'⟩ := p
  exact ⟨es', ep', t', ⟨o', k o' ho', r'⟩, q'⟩
theorem keys_items {P : Program} {w : World} : ∀ {k : List Key} {us : List Value}, Vals (k.map kV) us → ItemsAre (TkP P w) k us
  | [], _, .nil => .nil
  | _ :: _, _, .cons r t => .cons (kV_is r) (keys_items t)
/-- tuples of keys that stand -/
def TKs (K : PySem.W.Frag) (H : Hp) (L : List (Addr × List Key)) : Prop := ∀ p ∈ L, SqT K H p.1 (p.2.map kV)
theorem TKs.mono {K : PySem.W.Frag} {H H' : Hp} {L : List (Addr × List Key)} (h : TKs K H L) (e : Same H H') : TKs K H' L := fun p hp => same_seqT e (h p hp)
section
variable {X : Cx} {pins : List (Addr × Obj)} {σ : L2.St} {H : Hp} {s : Shared}
theorem tk_at (I : Inv X pins σ H s) {b : Addr} {k : List Key} (h : SqT X.K H b (k.map kV)) : IsTupleKey (TkP X.prog X.w) s.heap k b := by
  obtain ⟨its, r, ⟨o, ho, hc, n, hd⟩, _⟩ := I.tuple h
  exact ⟨o, its.toArray, n, ho, hc, hd, by simpa using keys_items r⟩
theorem ts_at (I : Inv X pins σ H s) {a : Addr} {L : List (Addr × List Key)} (ha : H a = some (TsO X.prog X.w a L)) (ht : TKs X.K H L) : ∃ es ep t, TsAt (TkP X.prog X.w) s.heap a L es ep t :=
  ts0_full (I.hok a _ ha).1 fun p hp => tk_at I (ht p hp)
/-- what is in the set with k at x -/
def Put (L L' : List (Addr × List Key)) (x : Addr) (k : List Key) : Prop := (k ∈ L.map (·.2) → L' = L) ∧ (k ∉ L.map (·.2) → L'.Perm ((x, k) :: L))
theorem ts_adds {E : Value → Shared → Prop} {D x : Addr} {k : List Key} {L : List (Addr × List Key)} {Q : Value → Shared → Prop} (I : Inv X pins σ H s) (hu : X.A.units + 8 < cLine) (hD : H D = some (TsO X.prog X.w D L)) (ht : TKs X.K H L) (hx : SqT X.K H x (k.map kV)) (few : L.length + 1 < 64)
    (h : ∀ L' s', Put L L' x k → Inv X pins σ (upd H D (TsO X.prog X.w D L')) s' → Q .none s') : wpAny (model X.prog X.w) X.A (call (.builtin "set.add") [.ref D, .ref x]) Q E s := by
  obtain ⟨es, ep, t, R⟩ := ts_at I hD ht
  obtain ⟨o, ho, hex, hd⟩ := R.obj
  have hT : s.TypeIs (.ref D) "set" := ⟨o, ho, hex.1⟩
  have hk := tk_at I hx
  refine wpAny_call_entry F.slot_set_add hT F.entry_set_add ?_ (F.args_set_add_2 _ _)
  unfold Builtin.«set.add» Builtin.Frozenset.oneOther
  simp only [List.isEmpty_nil, bind_assoc]
  unfold Builtin.Frozenset.addrOf setAdd
  refine wpAny_bind (wpAny_pure ?_)
  try dsimp only
  refine wpAny_bind (wpAny_pure ?_)
  try dsimp only
  refine wpAny_bind ?_
  refine wpAny_holding ?_
  refine wpAny_bind (wpAny_pyHash_tuple (by show _ < cLine; first | exact Nat.lt_of_le_of_lt (Nat.le_add_right _ 8) hu | (simp; omega)) hk ?_)
  refine ts_add plain_mix (s := { s with toks := s.toks + (k.length + 1) }) R hk (by first | exact Nat.lt_of_le_of_lt (Nat.le_add_right _ 8) hu | (simp; omega)) few fun y h' L' es' ep' t' sb R' c1 c2 => ?_
  show wpAny _ _ (ret Value.none) _ _ _
  refine wpAny_pure ⟨_, rfl, h L' _ ⟨c1, c2⟩ (I.write (e := D) (t' := s.toks + (k.length + 1)) (by rw [hD]; trivial) (.inl rfl) (fun b u hb hu => (sb.2 b hb).trans hu) ?_ (tsO_new (ts0_of R')))⟩
  obtain ⟨o', ho', _⟩ := R'.obj
  exact ⟨o', ho'⟩
end
end Vf

set_option Elab.async false
set_option linter.all false
set_option maxRecDepth 100000
set_option maxHeartbeats 4000000
/-! instances whose class has an __eq__ and a __str__ of its own: ==, != with anything, str() -/
namespace Vf
open PySem PySem.Spec PyProof.Rows L2

/-- an around below the body's own -/
structure Deep (X : Cx) (n : Nat) (A : Around) : Prop where
  room : Room n A
  fr : A.frames = X.A.frames
theorem Deep.top {X : Cx} {n : Nat} (h : Room n X.A) : Deep X n X.A := ⟨h, rfl⟩
theorem Deep.in1 {X : Cx} {n : Nat} {A : Around} (s : Deep X (n + 1) A) : Deep X n A.in1 := ⟨s.room.in1, s.fr⟩
section
variable {X : Cx} {pins : List (Addr × Obj)} {σ : L2.St} {H : Hp} {s : Shared} {CX : CXT} {k : Nat} {f : Addr} {fd : FuncData} {ps : List Str} {sp : Sp}
/-- a def of the module, called by a builtin with values -/
theorem run_fn {us : List Value} {vs : List V} {Q : VK} {E : XK} {A : Around} (F : FnOk X.prog X.w X.K X.mg X.base CX k f fd ps sp) (hb : Binds X.K fd ps []) (hx : Passes CX X E) (hA : Deep X k A) (I : Inv X pins σ H s) (r : Vals vs us) (h : sp vs H Q E) :
    wpAny (model X.prog X.w) A (call (.ref f) us) (EP X pins σ Q) X.xe s := by
  have e0 : Env0 X.prog X.w X.K X.mg X.base A X.stack s H := by
    have e := I.env0
    exact ⟨by rw [hA.fr]; exact e.frames, e.mod, e.bs, e.bsz, e.funs, e.frf, e.hok, e.bare⟩
  have hl := F.len _ _ _ _ h
  have hl2 := r.length
  refine wpAny_call (codeAny_mono (F.run A X.stack s H ⟨us, []⟩ us vs _ E hA.room e0 ?_ r h) fun r s' hq => ?_)
  · have q := hb s us I.kIn (by rw [List.append_nil, ← hl2]; exact hl)
    rw [List.append_nil] at q
    exact q
  · cases r with
    | error e => exact hx pins σ H s e s' I hq
    | ok fl =>
      cases fl with
      | ret w => exact I.after hq
      | next => exact False.elim hq
      | brk => exact False.elim hq
      | cont => exact False.elim hq
theorem inst_at (I : Inv X pins σ H s) {p C dx : Addr} {fs : List (Str × V)} (h : H p = some (.ins C dx fs)) : ∃ ox od, PySem.W.InstAt s.heap p ox C od := by
  obtain ⟨mA, J, _⟩ := ins_get I.hok h
  obtain ⟨od, J, _⟩ := J.look
  exact ⟨_, _, J⟩

/-- what is asked of the class -/
structure OwnTxt (K : PySem.W.Frag) (C fE fS : Addr) : Prop where
  eq : PySem.W.findIn K (.ref C) "__eq__" = some (some (.ref fE))
  fe : PySem.W.isFn K (.ref fE) = true
  str : PySem.W.findIn K (.ref C) "__str__" = some (some (.ref fS))
  fs : PySem.W.isFn K (.ref fS) = true
  ne : PySem.W.findIn K (.ref C) "__ne__" = some (some (.builtin "object.__ne__"))
  ob : PySem.W.mroIn K C (.type "object") = some true
/-- str(o) -/
def rStrO (C : Addr) (sp : Sp) (E : XK) : List V → Hp → VK → Prop := fun xs H Q => ∃ p dx fs, xs = [.ref p] ∧ H p = some (.ins C dx fs) ∧ sp [.ref p] H (fun v H' => ∃ z, v = .str z ∧ Q (.str z) H') E
theorem call_strO {C fE : Addr} {E : XK} (T : OwnTxt X.K C fE f) (F : FnOk X.prog X.w X.K X.mg X.base CX k f fd ps sp) (hb : Binds X.K fd ps []) (hx : Passes CX X E) (hr : Room (k + 2) X.A) : CallR X (.type "str") (rStrO C sp E) := by
  intro pins s σ H xs us Q I r h
  obtain ⟨p, dx, fs, rfl, hp, q⟩ := h
  rw [Vals.ref1 r]
  obtain ⟨ox, od, J⟩ := inst_at I hp
  have D : Deep X k X.A.in1.in1 := (Deep.top hr).in1.in1
  refine PySem.W.kso_call D.room.units0 I.kIn J T.str T.fs (wpAny_mono (run_fn F hb hx D I (vs := [V.ref p]) (.cons (show RelV (.ref p) (.ref p) from rfl) .nil) q) (fun v s' hv => ?_) fun _ _ e => e)
  obtain ⟨x, H', I', rx, z, rfl, q'⟩ := hv
  obtain ⟨t, rfl⟩ := rx
  exact ⟨.str z, H', I', ⟨t, rfl⟩, q'⟩
/-- o == y, y of a type that is none of the class's own further ones -/
def rEqO (K : PySem.W.Frag) (C : Addr) (sp : Sp) (E : XK) (neg : Bool) : R2 := fun x y H Q => ∃ p dx fs t, x = .ref p ∧ H p = some (.ins C dx fs) ∧ TyX K H y t ∧ PySem.W.notFirst K C t = true ∧ sp [.ref p, y] H (fun v H' => ∃ b, v = .bl b ∧ Q (.bl (if neg then !b else b)) H') E
theorem op_eqO {C fS : Addr} {E : XK} (T : OwnTxt X.K C f fS) (F : FnOk X.prog X.w X.K X.mg X.base CX k f fd ps sp) (hb : Binds X.K fd ps []) (hx : Passes CX X E) (hr : Room k X.A) : OpR X (compareOp .Eq) (rEqO X.K C sp E false) := by
  intro pins s σ H x y v u Q I rx ry h
  obtain ⟨p, dx, fs, t, rfl, hp, ty, nf, q⟩ := h
  cases rx
  obtain ⟨ox, od, J⟩ := inst_at I hp
  obtain ⟨P, Z, hP, _⟩ := kit_of I ry ty
  obtain ⟨m, hF⟩ := I.fr
  show wpAny (model X.prog X.w) X.A (richCompare .Eq (.ref p) u) (EP X pins σ Q) X.xe s
  refine PySem.W.cmp_K (op := .Eq) (tb := t) hr.units0 hF I.ok.mod.kin J (Z.ty _ _ I.kIn hP) nf T.eq T.fe (wpAny_mono (run_fn F hb hx (Deep.top hr) I (vs := [V.ref p, y]) (.cons (show RelV (.ref p) (.ref p) from rfl) (.cons ry .nil)) q) (fun w s' hw => ?_) fun _ _ e => e)
  obtain ⟨z, H', I', rz, b, rfl, q'⟩ := hw
  cases rz
  exact ⟨.bl b, H', I', rfl, q'⟩
theorem ifBound_ne {M : Model} {A : Around} {E : Value → Shared → Prop} {K : PySem.W.Frag} {s : Shared} {x C : Addr} {ox : Obj} {od : Option Obj} {args : List Value} {Q : Option Value → Shared → Prop} (kin : K.In s.heap) (I : PySem.W.InstAt s.heap x ox C od) (hs : PySem.W.findIn K (.ref C) "__ne__" = some (some (.builtin "object.__ne__")))
    (h : wpAny M A (call (.builtin "object.__ne__") (.ref x :: args)) (fun v => Q (some v)) E s) : wpAny M A (callSpecialIfBound? (.ref x) "__ne__" args) Q E s := by
  have last : wpAny M A (call (.builtin "object.__ne__") ([.ref x] ++ args) >>= fun v => pure (some v)) Q E s := wpAny_bind (wpAny_mono h (fun v s' h' => wpAny_pure h') fun _ _ h' => h')
  simp only [callSpecialIfBound?, bindSpecialIfBound?]
  refine wpAny_holding (wpAny_bind (wpAny_bind (wpAny_bind (I.type.here ((PySem.W.looks_findIn kin hs).here ?_)))))
  refine wpAny_bind (wpAny_askSetting (wpAny_ite ?_))
  split
  · exact wpAny_bind (wpAny_of_eq (F.cmp_object.ne.bind _) (wpAny_pure (by exact last)))
  · exact wpAny_tryCatch (wpAny_bind (wpAny_of_eq (F.cmp_object.ne.bind _) (wpAny_pure (by exact last))))
theorem op_neO {C fS : Addr} {E : XK} (T : OwnTxt X.K C f fS) (F : FnOk X.prog X.w X.K X.mg X.base CX k f fd ps sp) (hb : Binds X.K fd ps []) (hx : Passes CX X E) (hr : Room (k + 1) X.A) : OpR X (compareOp .NotEq) (rEqO X.K C sp E true) := by
  intro pins s σ H x y v u Q I rx ry h
  obtain ⟨p, dx, fs, t, rfl, hp, ty, nf, q⟩ := h
  cases rx
  obtain ⟨ox, od, J⟩ := inst_at I hp
  obtain ⟨P, Z, hP, _⟩ := kit_of I ry ty
  have D : Deep X k X.A.in1 := (Deep.top hr).in1
  have inner : wpAny (model X.prog X.w) X.A.in1 (call (.ref f) [.ref p, u]) (fun w s' => ∃ b, w = .bool b ∧ EP X pins σ Q (.bool (!b)) s') X.xe s :=
    wpAny_mono (run_fn F hb hx D I (vs := [V.ref p, y]) (.cons (show RelV (.ref p) (.ref p) from rfl) (.cons ry .nil)) q) (fun w s' hw => by
      obtain ⟨z, H', I', rz, b, rfl, q'⟩ := hw
      cases rz
      exact ⟨b, rfl, .bl (!b), H', I', rfl, q'⟩) fun _ _ e => e
  have body : wpAny (model X.prog X.w) X.A.in1 (Builtin.«object.__ne__» ⟨[.ref p, u], []⟩) (fun fin s' => ∃ b, fin = .done (.ret (.bool b)) ∧ EP X pins σ Q (.bool b) s') X.xe s := by
    unfold Builtin.«object.__ne__»
    refine wpAny_bind (wpAny_pure ?_)
    refine wpAny_bind (m := cRoomFor _ _) (wpAny_cRoomFor D.room.units0 ?_)
    refine wpAny_bind (m := callSpecialIfBound? (.ref p) (Str.ofString "__eq__") _) (PySem.W.ifBound_K I.kIn J T.eq T.fe (wpAny_mono inner (fun w s' hw => ?_) fun _ _ e => e))
    obtain ⟨b, rfl, e⟩ := hw
    refine wpAny_bind (m := truthy (.bool b)) (wpAny_truthy_bool ?_)
    exact wpAny_pure ⟨!b, rfl, e⟩
  have one : wpAny (model X.prog X.w) X.A (tryCompare (.ref p) "__ne__" u) (fun r s' => ∃ b, r = some (.bool b) ∧ EP X pins σ Q (.bool b) s') X.xe s := by
    unfold tryCompare
    refine wpAny_bind (ifBound_ne I.kIn J T.ne (wpAny_call (codeAny_call_builtin PySem.F.cmp_object.ne.plain PySem.F.cmpEntry_ne (PySem.W.check_slot PySem.F.cmpKind_ne PySem.F.cmpSplit_ne (J.type.andThen (PySem.W.looks_mroIn I.kIn T.ob)) (PySem.F.cmpArgs_ne _ _) (wpAny_mono body (fun fin s' hf => ?_) fun _ _ e => e)))))
    obtain ⟨b, rfl, e⟩ := hf
    exact wpAny_pure ⟨b, rfl, e⟩
  show wpAny (model X.prog X.w) X.A (richCompare .NotEq (.ref p) u) (EP X pins σ Q) X.xe s
  unfold richCompare
  simp only [oneThing_ref]
  refine wpAny_holding (wpAny_bind (wpAny_cRoomFor hr.units0 ?_))
  refine wpAny_bind (J.type.here (wpAny_bind ((Z.ty _ _ I.kIn hP).here ?_)))
  have fin : wpAny (model X.prog X.w) X.A (tryCompare (.ref p) "__ne__" u) (fun r s' => ∃ v, r = some v ∧ EP X pins σ Q v s') X.xe s := wpAny_mono one (fun r s' ⟨b, h1, h2⟩ => ⟨_, h1, h2⟩) fun _ _ e => e
  split
  · rename_i c
    have e : PySem.W.subIn X.K t (.ref C) = some false := by
      rcases Bool.or_eq_true_iff.mp nf with e | e
      · rw [beq_iff_eq.mp e] at c
        simp at c
      · exact beq_iff_eq.mp e
    refine wpAny_bind ((PySem.W.looks_subIn I.kIn e).here ?_)
    simp only [Bool.false_eq_true, if_false]
    refine wpAny_bind (wpAny_mono fin (fun r s' z => ?_) fun _ _ e => e)
    obtain ⟨v, rfl, hq⟩ := z
    exact wpAny_pure hq
  · refine wpAny_bind (wpAny_pure ?_)
    simp only [Bool.false_eq_true, if_false]
    refine wpAny_bind (wpAny_mono fin (fun r s' z => ?_) fun _ _ e => e)
    obtain ⟨v, rfl, hq⟩ := z
    exact wpAny_pure hq
end
end Vf

set_option Elab.async false
set_option linter.all false
set_option maxRecDepth 100000
set_option maxHeartbeats 4000000
/-! data against an instance whose class has an own __eq__: the instance is asked behind; `in` a tuple of texts -/
namespace Vf
open PySem PySem.Spec PyProof.Rows L2 PySem.SeqAt
open AutoSeq1 (wpAny_loadPart')
open MeetsSeq MeetsSeq2 MeetsSeq3
theorem str_eq_declines_ins (b : Str) (u : Tok) (l C dx : Addr) : Meets (Builtin.«str.__eq__» ⟨[.str b u, .ref l], []⟩) (fun _ R s => s.heap.get? l = some (PySem.W.instObj C dx) ∧ R (.ok (.ret .notImplemented)) s) :=
  .of_wp fun prog w A R s h => by obtain ⟨hp, g, d, tk, os⟩ := s; obtain ⟨hl, h⟩ := h; unfold PySem.W.instObj at hl; wp_walk using wpAny_loadPart' hl, wpAny_load hl; exact ⟨_, rfl, h⟩
theorem str_ne_declines_ins (b : Str) (u : Tok) (l C dx : Addr) : Meets (Builtin.«str.__ne__» ⟨[.str b u, .ref l], []⟩) (fun _ R s => s.heap.get? l = some (PySem.W.instObj C dx) ∧ R (.ok (.ret .notImplemented)) s) :=
  .of_wp fun prog w A R s h => by obtain ⟨hp, g, d, tk, os⟩ := s; obtain ⟨hl, h⟩ := h; unfold PySem.W.instObj at hl; wp_walk using wpAny_loadPart' hl, wpAny_load hl; exact ⟨_, rfl, h⟩
theorem int_eq_declines_ins (b : Int) (u : Tok) (l C dx : Addr) : Meets (Builtin.«int.__eq__» ⟨[.int b u, .ref l], []⟩) (fun _ R s => s.heap.get? l = some (PySem.W.instObj C dx) ∧ R (.ok (.ret .notImplemented)) s) :=
  .of_wp fun prog w A R s h => by obtain ⟨hp, g, d, tk, os⟩ := s; obtain ⟨hl, h⟩ := h; unfold PySem.W.instObj at hl; wp_walk using wpAny_loadPart' hl, wpAny_load hl; exact ⟨_, rfl, h⟩
theorem int_ne_declines_ins (b : Int) (u : Tok) (l C dx : Addr) : Meets (Builtin.«int.__ne__» ⟨[.int b u, .ref l], []⟩) (fun _ R s => s.heap.get? l = some (PySem.W.instObj C dx) ∧ R (.ok (.ret .notImplemented)) s) :=
  .of_wp fun prog w A R s h => by obtain ⟨hp, g, d, tk, os⟩ := s; obtain ⟨hl, h⟩ := h; unfold PySem.W.instObj at hl; wp_walk using wpAny_loadPart' hl, wpAny_load hl; exact ⟨_, rfl, h⟩
theorem bool_eq_declines_ins (b : Bool) (l C dx : Addr) : Meets (Builtin.«int.__eq__» ⟨[.bool b, .ref l], []⟩) (fun _ R s => s.heap.get? l = some (PySem.W.instObj C dx) ∧ R (.ok (.ret .notImplemented)) s) :=
  .of_wp fun prog w A R s h => by obtain ⟨hp, g, d, tk, os⟩ := s; obtain ⟨hl, h⟩ := h; unfold PySem.W.instObj at hl; wp_walk using wpAny_loadPart' hl, wpAny_load hl; exact ⟨_, rfl, h⟩
theorem bool_ne_declines_ins (b : Bool) (l C dx : Addr) : Meets (Builtin.«int.__ne__» ⟨[.bool b, .ref l], []⟩) (fun _ R s => s.heap.get? l = some (PySem.W.instObj C dx) ∧ R (.ok (.ret .notImplemented)) s) :=
  .of_wp fun prog w A R s h => by obtain ⟨hp, g, d, tk, os⟩ := s; obtain ⟨hl, h⟩ := h; unfold PySem.W.instObj at hl; wp_walk using wpAny_loadPart' hl, wpAny_load hl; exact ⟨_, rfl, h⟩
/-- which of the built-in types are none of C's -/
structure NoSub (K : PySem.W.Frag) (C : Addr) : Prop where
  s : PySem.W.subIn K (.ref C) (.type "str") = some false
  i : PySem.W.subIn K (.ref C) (.type "int") = some false
  b : PySem.W.subIn K (.ref C) (.type "bool") = some false
  n : PySem.W.subIn K (.ref C) (.type "NoneType") = some false
  l : PySem.W.subIn K (.ref C) (.type "list") = some false
  t : PySem.W.subIn K (.ref C) (.type "tuple") = some false
section
variable {prog : Program} {w : World} {K : PySem.W.Frag} {C : Addr}
theorem sub_at {M : Model} {A : Around} {E : Value → Shared → Prop} {h : Heap} {g d tk os} {T : String} {Q : Bool → Shared → Prop} (X : K.In h) (e : PySem.W.subIn K (.ref C) (.type T) = some false) (q : Q false ⟨h, g, d, tk, os⟩) : wpAny M A (isSubtype (.ref C) (.type T)) Q E ⟨h, g, d, tk, os⟩ :=
  (PySem.W.looks_subIn X e).at q
theorem list_eq_declines_ins (e : PySem.W.subIn K (.ref C) (.type "list") = some false) (l b dx : Addr) (items : Array Value) (n : Nat) (dd : Option Addr) (sl : Array (Option Value)) :
    Meets (Builtin.«list.__eq__» ⟨[.ref l, .ref b], []⟩) (fun _ R s => K.In s.heap ∧ s.heap.get? l = some { cls := .type "list", dict := dd, data := .seq items n, slots := sl } ∧ s.heap.get? b = some (PySem.W.instObj C dx) ∧ R (.ok (.ret .notImplemented)) s) :=
  .of_wp fun prog w A R s h => by obtain ⟨hp, g, d, tk, os⟩ := s; obtain ⟨X, hl, hb, h⟩ := h; unfold PySem.W.instObj at hb; wp_walk using wpAny_loadPart' hl, wpAny_loadPart' hb, sub_at X e; exact ⟨_, rfl, h⟩
theorem list_ne_declines_ins (e : PySem.W.subIn K (.ref C) (.type "list") = some false) (l b dx : Addr) (items : Array Value) (n : Nat) (dd : Option Addr) (sl : Array (Option Value)) :
    Meets (Builtin.«list.__ne__» ⟨[.ref l, .ref b], []⟩) (fun _ R s => K.In s.heap ∧ s.heap.get? l = some { cls := .type "list", dict := dd, data := .seq items n, slots := sl } ∧ s.heap.get? b = some (PySem.W.instObj C dx) ∧ R (.ok (.ret .notImplemented)) s) :=
  .of_wp fun prog w A R s h => by obtain ⟨hp, g, d, tk, os⟩ := s; obtain ⟨X, hl, hb, h⟩ := h; unfold PySem.W.instObj at hb; wp_walk using wpAny_loadPart' hl, wpAny_loadPart' hb, sub_at X e; exact ⟨_, rfl, h⟩
theorem tuple_eq_declines_ins (e : PySem.W.subIn K (.ref C) (.type "tuple") = some false) (l b dx : Addr) (items : Array Value) (n : Nat) (dd : Option Addr) (sl : Array (Option Value)) :
    Meets (Builtin.«tuple.__eq__» ⟨[.ref l, .ref b], []⟩) (fun _ R s => K.In s.heap ∧ s.heap.get? l = some { cls := .type "tuple", dict := dd, data := .seq items n, slots := sl } ∧ s.heap.get? b = some (PySem.W.instObj C dx) ∧ R (.ok (.ret .notImplemented)) s) :=
  .of_wp fun prog w A R s h => by obtain ⟨hp, g, d, tk, os⟩ := s; obtain ⟨X, hl, hb, h⟩ := h; unfold PySem.W.instObj at hb; wp_walk using wpAny_loadPart' hl, wpAny_loadPart' hb, sub_at X e; exact ⟨_, rfl, h⟩
theorem tuple_ne_declines_ins (e : PySem.W.subIn K (.ref C) (.type "tuple") = some false) (l b dx : Addr) (items : Array Value) (n : Nat) (dd : Option Addr) (sl : Array (Option Value)) :
    Meets (Builtin.«tuple.__ne__» ⟨[.ref l, .ref b], []⟩) (fun _ R s => K.In s.heap ∧ s.heap.get? l = some { cls := .type "tuple", dict := dd, data := .seq items n, slots := sl } ∧ s.heap.get? b = some (PySem.W.instObj C dx) ∧ R (.ok (.ret .notImplemented)) s) :=
  .of_wp fun prog w A R s h => by obtain ⟨hp, g, d, tk, os⟩ := s; obtain ⟨X, hl, hb, h⟩ := h; unfold PySem.W.instObj at hb; wp_walk using wpAny_loadPart' hl, wpAny_loadPart' hb, sub_at X e; exact ⟨_, rfl, h⟩
/-- the left one declines, the instance answers -/
theorem rc_behind {A : Around} {E : Value → Shared → Prop} {s : Shared} {op : CmpOp} {x : Value} {T id : String} {p dx : Addr} {od : Option Obj} {Q : Value → Shared → Prop} (hu : A.units < cLine) (X : K.In s.heap) (hx : s.TypeIs x T) (sl : Slot T (cmpInfo op).2.1 id) (J : PySem.W.InstAt s.heap p (PySem.W.instObj C dx) C od)
    (hs : PySem.W.subIn K (.ref C) (.type T) = some false) (hc : ∀ Q' : Value → Shared → Prop, Q' .notImplemented s → wpAny (model prog w) A (call (.builtin id) [x, .ref p]) Q' E s)
    (h : wpAny (model prog w) A (tryCompare (.ref p) (cmpInfo op).2.2 x) (fun r s' => ∃ v, r = some v ∧ Q v s') E s) : wpAny (model prog w) A (richCompare op x (.ref p)) Q E s := by
  rcases hi : cmpInfo op with ⟨sym, f, r⟩
  rw [hi] at sl h
  simp only [richCompare, hi, hx.oneThing_none]
  try with_reducible refine wpAny_holding ?_
  refine wpAny_bind (wpAny_cRoomFor_or (.inr hu) ?_)
  refine wpAny_bind (wpAny_typeOf hx (wpAny_bind (J.type.here ?_)))
  have hne : (Value.type T != Value.ref C) = true := by simp
  simp only [hne, if_true]
  have hne' : ((Value.ref C) != Value.type T) = true := by simp
  refine wpAny_bind ((PySem.W.looks_subIn X hs).here ?_)
  simp only [Bool.false_eq_true, if_false, Bool.not_false, if_true]
  refine wpAny_bind (m := tryCompare x _ (.ref p)) (wpAny_tryCompare_declines hx sl (hc _ ⟨rfl, ?_⟩))
  refine wpAny_bind (wpAny_mono h (fun r s' z => ?_) fun _ _ e => e)
  obtain ⟨v, rfl, hq⟩ := z
  exact wpAny_pure hq
end
section
variable {X : Cx} {pins : List (Addr × Obj)} {σ : L2.St} {H : Hp} {s : Shared} {CX : CXT} {k : Nat} {f : Addr} {fd : FuncData} {ps : List Str} {sp : Sp}
theorem inst_at2 (I : Inv X pins σ H s) {p C dx : Addr} {fs : List (Str × V)} (h : H p = some (.ins C dx fs)) : ∃ od, PySem.W.InstAt s.heap p (PySem.W.instObj C dx) C od := by
  obtain ⟨mA, J, _⟩ := ins_get I.hok h
  obtain ⟨od, J, _⟩ := J.look
  exact ⟨_, J⟩
theorem try_eqO {C fS p dx : Addr} {fs : List (Str × V)} {E : XK} {y : V} {u : Value} {Q : VK} (T : OwnTxt X.K C f fS) (F : FnOk X.prog X.w X.K X.mg X.base CX k f fd ps sp) (hb : Binds X.K fd ps []) (hx : Passes CX X E) (hr : Room k X.A) (I : Inv X pins σ H s) (hp : H p = some (.ins C dx fs)) (ry : RelV y u)
    (q : sp [.ref p, y] H (fun v H' => ∃ b, v = .bl b ∧ Q (.bl b) H') E) : wpAny (model X.prog X.w) X.A (tryCompare (.ref p) "__eq__" u) (fun r s' => ∃ v, r = some v ∧ EP X pins σ Q v s') X.xe s := by
  obtain ⟨od, J⟩ := inst_at2 I hp
  unfold tryCompare
  refine wpAny_bind (PySem.W.ifBound_K I.kIn J T.eq T.fe (wpAny_mono (run_fn F hb hx (Deep.top hr) I (vs := [V.ref p, y]) (.cons (show RelV (.ref p) (.ref p) from rfl) (.cons ry .nil)) q) (fun w s' hw => ?_) fun _ _ e => e))
  obtain ⟨z, H', I', rz, b, rfl, q'⟩ := hw
  cases rz
  exact wpAny_pure ⟨_, rfl, .bl b, H', I', rfl, q'⟩
theorem try_neO {C fS p dx : Addr} {fs : List (Str × V)} {E : XK} {y : V} {u : Value} {Q : VK} (T : OwnTxt X.K C f fS) (F : FnOk X.prog X.w X.K X.mg X.base CX k f fd ps sp) (hb : Binds X.K fd ps []) (hx : Passes CX X E) (hr : Room (k + 1) X.A) (I : Inv X pins σ H s) (hp : H p = some (.ins C dx fs)) (ry : RelV y u)
    (q : sp [.ref p, y] H (fun v H' => ∃ b, v = .bl b ∧ Q (.bl (!b)) H') E) : wpAny (model X.prog X.w) X.A (tryCompare (.ref p) "__ne__" u) (fun r s' => ∃ v, r = some v ∧ EP X pins σ Q v s') X.xe s := by
  obtain ⟨od, J⟩ := inst_at2 I hp
  have D : Deep X k X.A.in1 := (Deep.top hr).in1
  have inner : wpAny (model X.prog X.w) X.A.in1 (call (.ref f) [.ref p, u]) (fun w s' => ∃ b, w = .bool b ∧ EP X pins σ Q (.bool (!b)) s') X.xe s :=
    wpAny_mono (run_fn F hb hx D I (vs := [V.ref p, y]) (.cons (show RelV (.ref p) (.ref p) from rfl) (.cons ry .nil)) q) (fun w s' hw => by
      obtain ⟨z, H', I', rz, b, rfl, q'⟩ := hw
      cases rz
      exact ⟨b, rfl, .bl (!b), H', I', rfl, q'⟩) fun _ _ e => e
  have body : wpAny (model X.prog X.w) X.A.in1 (Builtin.«object.__ne__» ⟨[.ref p, u], []⟩) (fun fin s' => ∃ b, fin = .done (.ret (.bool b)) ∧ EP X pins σ Q (.bool b) s') X.xe s := by
    unfold Builtin.«object.__ne__»
    refine wpAny_bind (wpAny_pure ?_)
    refine wpAny_bind (m := cRoomFor _ _) (wpAny_cRoomFor D.room.units0 ?_)
    refine wpAny_bind (m := callSpecialIfBound? (.ref p) (Str.ofString "__eq__") _) (PySem.W.ifBound_K I.kIn J T.eq T.fe (wpAny_mono inner (fun w s' hw => ?_) fun _ _ e => e))
    obtain ⟨b, rfl, e⟩ := hw
    refine wpAny_bind (m := truthy (.bool b)) (wpAny_truthy_bool ?_)
    exact wpAny_pure ⟨!b, rfl, e⟩
  unfold tryCompare
  refine wpAny_bind (ifBound_ne I.kIn J T.ne (wpAny_call (codeAny_call_builtin PySem.F.cmp_object.ne.plain PySem.F.cmpEntry_ne (PySem.W.check_slot PySem.F.cmpKind_ne PySem.F.cmpSplit_ne (J.type.andThen (PySem.W.looks_mroIn I.kIn T.ob)) (PySem.F.cmpArgs_ne _ _) (wpAny_mono body (fun fin s' hf => ?_) fun _ _ e => e)))))
  obtain ⟨b, rfl, e⟩ := hf
  exact wpAny_pure ⟨_, rfl, e⟩
/-- x == o, x != o, x data -/
def rEqB (K : PySem.W.Frag) (C : Addr) (sp : Sp) (E : XK) (neg : Bool) : R2 := fun x y H Q => ∃ p dx fs d, y = .ref p ∧ H p = some (.ins C dx fs) ∧ Dp K H x d ∧ sp [.ref p, x] H (fun v H' => ∃ b, v = .bl b ∧ Q (.bl (if neg then !b else b)) H') E
theorem op_eqB {C fS : Addr} {E : XK} (N : NoSub X.K C) (T : OwnTxt X.K C f fS) (F : FnOk X.prog X.w X.K X.mg X.base CX k f fd ps sp) (hb : Binds X.K fd ps []) (hx : Passes CX X E) (hr : Room k X.A) : OpR X (compareOp .Eq) (rEqB X.K C sp E false) := by
  intro pins s σ H x y v u Q I rx ry h
  obtain ⟨p, dx, fs, d, rfl, hp, hd, q⟩ := h
  cases ry
  obtain ⟨od, J⟩ := inst_at2 I hp
  have hu := hr.units0
  have T1 := try_eqO (Q := Q) T F hb hx hr I hp rx q
  show wpAny (model X.prog X.w) X.A (richCompare .Eq v (.ref p)) (EP X pins σ Q) X.xe s
  cases hd with
  | non =>
    cases rx
    exact rc_behind hu I.kIn rfl PySem.F.slot_NoneType_eq J N.n (fun _ hq => call_gives PySem.F.slot_NoneType_eq rfl PySem.F.entry_NoneType_eq (PySem.F.args_NoneType_eq_2 _ _) (NoneType___eq___none_ref_0 p) hq) T1
  | bl b =>
    cases rx
    exact rc_behind hu I.kIn rfl PySem.F.slot_bool_eq J N.b (fun _ hq => call_meets PySem.F.slot_bool_eq rfl PySem.F.entry_int_eq (PySem.F.args_int_eq_2 _ _) (bool_eq_declines_ins b p C dx) ⟨J.at_, hq⟩) T1
  | int i =>
    obtain ⟨t, rfl⟩ := rx
    exact rc_behind hu I.kIn (typeIs_int s i t) PySem.F.slot_int_eq J N.i (fun _ hq => call_meets PySem.F.slot_int_eq (typeIs_int s i t) PySem.F.entry_int_eq (PySem.F.args_int_eq_2 _ _) (int_eq_declines_ins i t p C dx) ⟨J.at_, hq⟩) T1
  | str z =>
    obtain ⟨t, rfl⟩ := rx
    exact rc_behind hu I.kIn (typeIs_str s z t) PySem.F.slot_str_eq J N.s (fun _ hq => call_meets PySem.F.slot_str_eq (typeIs_str s z t) PySem.F.entry_str_eq (PySem.F.args_str_eq_2 _ _) (str_eq_declines_ins z t p C dx) ⟨J.at_, hq⟩) T1
  | lst hs ha =>
    cases rx
    obtain ⟨its, rv, ⟨⟨cls, dd, data, sls⟩, n, ho, hc, hdn, hdt⟩, hlen⟩ := I.list hs
    simp only at hc hdt
    subst hc hdt
    exact rc_behind hu I.kIn ⟨_, ho, rfl⟩ PySem.F.slot_list_eq J N.l (fun _ hq => call_meets PySem.F.slot_list_eq ⟨_, ho, rfl⟩ PySem.F.entry_list_eq (PySem.F.args_list_eq_2 _ _) (list_eq_declines_ins N.l _ p dx _ n dd sls) ⟨I.kIn, ho, J.at_, hq⟩) T1
  | tup hs ha =>
    cases rx
    obtain ⟨its, rv, ⟨⟨cls, dd, data, sls⟩, ho, hc, n, hdt⟩, hlen⟩ := I.tuple hs
    simp only at hc hdt
    subst hc hdt
    exact rc_behind hu I.kIn ⟨_, ho, rfl⟩ PySem.F.slot_tuple_eq J N.t (fun _ hq => call_meets PySem.F.slot_tuple_eq ⟨_, ho, rfl⟩ PySem.F.entry_tuple_eq (PySem.F.args_tuple_eq_2 _ _) (tuple_eq_declines_ins N.t _ p dx _ n dd sls) ⟨I.kIn, ho, J.at_, hq⟩) T1
theorem op_neB {C fS : Addr} {E : XK} (N : NoSub X.K C) (T : OwnTxt X.K C f fS) (F : FnOk X.prog X.w X.K X.mg X.base CX k f fd ps sp) (hb : Binds X.K fd ps []) (hx : Passes CX X E) (hr : Room (k + 1) X.A) : OpR X (compareOp .NotEq) (rEqB X.K C sp E true) := by
  intro pins s σ H x y v u Q I rx ry h
  obtain ⟨p, dx, fs, d, rfl, hp, hd, q⟩ := h
  cases ry
  obtain ⟨od, J⟩ := inst_at2 I hp
  have hu := hr.units0
  have T1 := try_neO (Q := Q) T F hb hx hr I hp rx q
  show wpAny (model X.prog X.w) X.A (richCompare .NotEq v (.ref p)) (EP X pins σ Q) X.xe s
  cases hd with
  | non =>
    cases rx
    exact rc_behind hu I.kIn rfl PySem.F.slot_NoneType_ne J N.n (fun _ hq => call_gives PySem.F.slot_NoneType_ne rfl PySem.F.entry_NoneType_ne (PySem.F.args_NoneType_ne_2 _ _) (NoneType___ne___none_ref_0 p) hq) T1
  | bl b =>
    cases rx
    exact rc_behind hu I.kIn rfl PySem.F.slot_bool_ne J N.b (fun _ hq => call_meets PySem.F.slot_bool_ne rfl PySem.F.entry_int_ne (PySem.F.args_int_ne_2 _ _) (bool_ne_declines_ins b p C dx) ⟨J.at_, hq⟩) T1
  | int i =>
    obtain ⟨t, rfl⟩ := rx
    exact rc_behind hu I.kIn (typeIs_int s i t) PySem.F.slot_int_ne J N.i (fun _ hq => call_meets PySem.F.slot_int_ne (typeIs_int s i t) PySem.F.entry_int_ne (PySem.F.args_int_ne_2 _ _) (int_ne_declines_ins i t p C dx) ⟨J.at_, hq⟩) T1
  | str z =>
    obtain ⟨t, rfl⟩ := rx
    exact rc_behind hu I.kIn (typeIs_str s z t) PySem.F.slot_str_ne J N.s (fun _ hq => call_meets PySem.F.slot_str_ne (typeIs_str s z t) PySem.F.entry_str_ne (PySem.F.args_str_ne_2 _ _) (str_ne_declines_ins z t p C dx) ⟨J.at_, hq⟩) T1
  | lst hs ha =>
    cases rx
    obtain ⟨its, rv, ⟨⟨cls, dd, data, sls⟩, n, ho, hc, hdn, hdt⟩, hlen⟩ := I.list hs
    simp only at hc hdt
    subst hc hdt
    exact rc_behind hu I.kIn ⟨_, ho, rfl⟩ PySem.F.slot_list_ne J N.l (fun _ hq => call_meets PySem.F.slot_list_ne ⟨_, ho, rfl⟩ PySem.F.entry_list_ne (PySem.F.args_list_ne_2 _ _) (list_ne_declines_ins N.l _ p dx _ n dd sls) ⟨I.kIn, ho, J.at_, hq⟩) T1
  | tup hs ha =>
    cases rx
    obtain ⟨its, rv, ⟨⟨cls, dd, data, sls⟩, ho, hc, n, hdt⟩, hlen⟩ := I.tuple hs
    simp only at hc hdt
    subst hc hdt
    exact rc_behind hu I.kIn ⟨_, ho, rfl⟩ PySem.F.slot_tuple_ne J N.t (fun _ hq => call_meets PySem.F.slot_tuple_ne ⟨_, ho, rfl⟩ PySem.F.entry_tuple_ne (PySem.F.args_tuple_ne_2 _ _) (tuple_ne_declines_ins N.t _ p dx _ n dd sls) ⟨I.kIn, ho, J.at_, hq⟩) T1
/-- x not in a tuple of data -/
def rNotInTD (K : PySem.W.Frag) : R2 := fun x y H Q => ∃ d ds, Dp K H x d ∧ Dp K H y (.tuple ds) ∧ SeqAt.shaped d = true ∧ SeqAt.shaped (.tuple ds) = true ∧ Q (.bl (!ds.any fun z => PyData.eqv z d)) H
theorem op_notInTD (hu : X.A.units + 65 < cLine) : OpR X (compareOp .NotIn) (rNotInTD X.K) := by
  intro pins s σ H x y v u Q I rx ry h
  obtain ⟨d, ds, hd, he, sd, se, q⟩ := h
  obtain ⟨as, r1⟩ := Dp.reads I d x v hd rx
  obtain ⟨bs, r2⟩ := Dp.reads I (.tuple ds) y u he ry
  exact SeqAt.notIn_tuple_reads r2 r1 (SeqAt.canLay_of_shaped se) (SeqAt.canLay_of_shaped sd) (room_in_shaped sd hu) ⟨.bl _, H, I, rfl, q⟩
/-- one of two readings -/
theorem op_or {f : Value → Value → Sem Value} {r1 r2 : R2} (h1 : OpR X f r1) (h2 : OpR X f r2) : OpR X f (fun x y H Q => r1 x y H Q ∨ r2 x y H Q) := by
  intro pins s σ H x y v u Q I rx ry h
  rcases h with h | h
  · exact h1 pins s σ H x y v u Q I rx ry h
  · exact h2 pins s σ H x y v u Q I rx ry h
end
end Vf

set_option Elab.async false
set_option linter.all false
set_option maxRecDepth 100000
set_option maxHeartbeats 1000000
/-! the data layer: the operations -/
namespace Vf
open PySem PySem.Spec PyProof.Rows L2

mutual
def toPy : D → Option PyData
  | .non => some .none
  | .bl b => some (.bool b)
  | .int i => some (.int i)
  | .str s => some (.str s)
  | .lst l => (toPyAll l).map .list
  | .tup l => (toPyAll l).map .tuple
  | .ins _ _ _ => none
  | .dcK _ _ => none
  | .dcT _ _ => none
  | .obj _ => none
  | .scr _ => none
  | .ty _ => none
  | .nms _ => none
  | .kt _ => none
  | .exc _ _ _ _ => none
def toPyAll : List D → Option (List PyData)
  | [] => some []
  | d :: ds => match toPy d, toPyAll ds with
    | some p, some ps => some (p :: ps)
    | _, _ => none
end
mutual
/-- data alike, as Python's == tells -/
def dEq : D → D → Bool
  | .non, .non => true
  | .bl a, .bl b => a == b
  | .bl a, .int j => (if a then 1 else 0) == j
  | .int i, .bl b => i == (if b then 1 else 0)
  | .int i, .int j => i == j
  | .str x, .str y => x == y
  | .lst xs, .lst ys => dEqAll xs ys
  | .tup xs, .tup ys => dEqAll xs ys
  | _, _ => false
def dEqAll : List D → List D → Bool
  | [], [] => true
  | x :: xs, y :: ys => dEq x y && dEqAll xs ys
  | _, _ => false
end
/-- its parts may be compared by the library's rule -/
def shD (d : D) : Bool := match toPy d with
  | some p => SeqAt.shaped p
  | none => false
/-- two things without parts, of kinds that may be compared at once -/
def scD : D → D → Bool
  | .non, .non => true | .non, .int _ => true | .int _, .non => true | .non, .bl _ => true | .bl _, .non => true | .non, .str _ => true | .str _, .non => true
  | .int _, .int _ => true | .bl _, .bl _ => true | .str _, .str _ => true
  | .int _, .str _ => true | .str _, .int _ => true | .bl _, .str _ => true | .str _, .bl _ => true
  | _, _ => false
def flD : D → Bool
  | .non => true | .bl _ => true | .int _ => true | .str _ => true
  | _ => false
section
variable {K : PySem.W.Frag} {G H : Hp}
mutual
theorem toPy_dp : ∀ {d : D} {v : V} {p : PyData}, toPy d = some p → Rp K G v d → Dp K G v p
  | .non, _, _, e, h => by cases e; cases (show _ = _ from h); exact .non
  | .bl b, _, _, e, h => by cases e; cases (show _ = _ from h); exact .bl b
  | .int i, _, _, e, h => by cases e; cases (show _ = _ from h); exact .int i
  | .str s, _, _, e, h => by cases e; cases (show _ = _ from h); exact .str s
  | .lst l, _, _, e, h => by
    obtain ⟨a, xs, rfl, q, r⟩ := h
    unfold toPy at e
    cases z : toPyAll l with
    | none => rw [z] at e; cases e
    | some ps => rw [z] at e; cases e; exact .lst (SqL.of q) (toPyAll_dp z r)
  | .tup l, _, _, e, h => by
    obtain ⟨a, xs, rfl, q, r⟩ := h
    unfold toPy at e
    cases z : toPyAll l with
    | none => rw [z] at e; cases e
    | some ps => rw [z] at e; cases e; exact .tup q (toPyAll_dp z r)
  | .ins _ _ _, _, _, e, _ => by cases e
  | .dcK _ _, _, _, e, _ => by cases e
  | .dcT _ _, _, _, e, _ => by cases e
  | .obj _, _, _, e, _ => by cases e
  | .scr _, _, _, e, _ => by cases e
  | .ty _, _, _, e, _ => by cases e
  | .nms _, _, _, e, _ => by cases e
  | .kt _, _, _, e, _ => by cases e
  | .exc _ _ _ _, _, _, e, _ => by cases e
theorem toPyAll_dp : ∀ {ds : List D} {xs : List V} {ps : List PyData}, toPyAll ds = some ps → RpAll K G xs ds → DpAll K G xs ps
  | [], _, _, e, h => by cases e; cases (show _ = _ from h); exact .nil
  | d :: ds, _, _, e, h => by
    obtain ⟨x, r, rfl, q, t⟩ := h
    unfold toPyAll at e
    cases z1 : toPy d with
    | none => rw [z1] at e; cases e
    | some p =>
      cases z2 : toPyAll ds with
      | none => rw [z1, z2] at e; cases e
      | some ps =>
        rw [z1, z2] at e
        cases e
        exact .cons (toPy_dp z1 q) (toPyAll_dp z2 t)
end
mutual
theorem dEq_py : ∀ {d e : D} {p q : PyData}, toPy d = some p → toPy e = some q → dEq d e = PyData.eqv p q
  | .non, e, _, _, a, b => by
    cases a
    cases e <;> simp only [toPy, Option.map_eq_some_iff, Option.some.injEq, reduceCtorEq] at b <;> first | (obtain ⟨x, _, rfl⟩ := b; simp [dEq, PyData.eqv]; done) | (subst b; simp [dEq, PyData.eqv]; done)
  | .bl _, e, _, _, a, b => by
    cases a
    cases e <;> simp only [toPy, Option.map_eq_some_iff, Option.some.injEq, reduceCtorEq] at b <;> first | (obtain ⟨x, _, rfl⟩ := b; simp [dEq, PyData.eqv]; done) | (subst b; simp [dEq, PyData.eqv]; done)
  | .int _, e, _, _, a, b => by
    cases a
    cases e <;> simp only [toPy, Option.map_eq_some_iff, Option.some.injEq, reduceCtorEq] at b <;> first | (obtain ⟨x, _, rfl⟩ := b; simp [dEq, PyData.eqv]; done) | (subst b; simp [dEq, PyData.eqv]; done)
  | .str _, e, _, _, a, b => by
    cases a
    cases e <;> simp only [toPy, Option.map_eq_some_iff, Option.some.injEq, reduceCtorEq] at b <;> first | (obtain ⟨x, _, rfl⟩ := b; simp [dEq, PyData.eqv]; done) | (subst b; simp [dEq, PyData.eqv]; done)
  | .lst l, e, _, _, a, b => by
    unfold toPy at a
    cases z : toPyAll l with
    | none => rw [z] at a; cases a
    | some ps =>
      rw [z] at a
      cases a
      cases e with
      | lst m =>
        unfold toPy at b
        cases y : toPyAll m with
        | none => rw [y] at b; cases b
        | some qs => rw [y] at b; cases b; simp only [dEq, PyData.eqv]; exact dEqAll_py z y
      | tup m =>
        unfold toPy at b
        cases y : toPyAll m with
        | none => rw [y] at b; cases b
        | some qs => rw [y] at b; cases b; simp [dEq, PyData.eqv]
      | _ => cases b <;> simp [dEq, PyData.eqv]
  | .tup l, e, _, _, a, b => by
    unfold toPy at a
    cases z : toPyAll l with
    | none => rw [z] at a; cases a
    | some ps =>
      rw [z] at a
      cases a
      cases e with
      | tup m =>
        unfold toPy at b
        cases y : toPyAll m with
        | none => rw [y] at b; cases b
        | some qs => rw [y] at b; cases b; simp only [dEq, PyData.eqv]; exact dEqAll_py z y
      | lst m =>
        unfold toPy at b
        cases y : toPyAll m with
        | none => rw [y] at b; cases b
        | some qs => rw [y] at b; cases b; simp [dEq, PyData.eqv]
      | _ => cases b <;> simp [dEq, PyData.eqv]
  | .ins _ _ _, _, _, _, a, _ => by cases a
  | .dcK _ _, _, _, _, a, _ => by cases a
  | .dcT _ _, _, _, _, a, _ => by cases a
  | .obj _, _, _, _, a, _ => by cases a
  | .scr _, _, _, _, a, _ => by cases a
  | .ty _, _, _, _, a, _ => by cases a
  | .nms _, _, _, _, a, _ => by cases a
  | .kt _, _, _, _, a, _ => by cases a
  | .exc _ _ _ _, _, _, _, a, _ => by cases a
theorem dEqAll_py : ∀ {ds es : List D} {ps qs : List PyData}, toPyAll ds = some ps → toPyAll es = some qs → dEqAll ds es = PyData.eqvAll ps qs
  | [], [], _, _, a, b => by cases a; cases b; simp [dEqAll, PyData.eqvAll]
  | [], e :: es, _, _, a, b => by
    cases a
    unfold toPyAll at b
    cases z1 : toPy e with
    | none => rw [z1] at b; cases b
    | some p =>
      cases z2 : toPyAll es with
      | none => rw [z1, z2] at b; cases b
      | some ps => rw [z1, z2] at b; cases b; simp [dEqAll, PyData.eqvAll]
  | d :: ds, [], _, _, a, b => by
    cases b
    unfold toPyAll at a
    cases z1 : toPy d with
    | none => rw [z1] at a; cases a
    | some p =>
      cases z2 : toPyAll ds with
      | none => rw [z1, z2] at a; cases a
      | some ps => rw [z1, z2] at a; cases a; simp [dEqAll, PyData.eqvAll]
  | d :: ds, e :: es, _, _, a, b => by
    unfold toPyAll at a b
    cases z1 : toPy d with
    | none => rw [z1] at a; cases a
    | some p =>
      cases z2 : toPyAll ds with
      | none => rw [z1, z2] at a; cases a
      | some ps =>
        cases y1 : toPy e with
        | none => rw [y1] at b; cases b
        | some q =>
          cases y2 : toPyAll es with
          | none => rw [y1, y2] at b; cases b
          | some qs =>
            rw [z1, z2] at a
            rw [y1, y2] at b
            cases a
            cases b
            simp only [dEqAll, PyData.eqvAll]
            rw [dEq_py z1 y1, dEqAll_py z2 y2]
end
def dV : D → V
  | .bl b => .bl b
  | .int i => .int i
  | .str s => .str s
  | _ => .non
theorem rp_flat {d : D} {v : V} (f : flD d = true) (h : Rp K G v d) : v = dV d := by
  cases d <;> first | (exact (Bool.false_ne_true f).elim) | exact h
theorem eqV_flat {d e : D} (f : flD d = true) (g : flD e = true) : eqV (dV d) (dV e) = dEq d e := by
  cases d <;> first | (exact (Bool.false_ne_true f).elim) | (cases e <;> first | (exact (Bool.false_ne_true g).elim) | simp [dV, eqV, dEq])
theorem sc_flat {d e : D} (f : scD d e = true) : flD d = true ∧ flD e = true := by
  cases d <;> cases e <;> first | (exact (Bool.false_ne_true f).elim) | exact ⟨rfl, rfl⟩
theorem sc_dec {d e : D} (f : scD d e = true) : scal (dV d) (dV e) = true ∧ decide (dV d = dV e) = dEq d e := by
  cases d <;> cases e <;> first | (exact (Bool.false_ne_true f).elim) | exact ⟨rfl, rfl⟩ | exact ⟨rfl, (dec_int).trans (by simp only [dEq])⟩ | exact ⟨rfl, (dec_bl).trans (by simp only [dEq])⟩ | exact ⟨rfl, (dec_str).trans (by simp only [dEq])⟩ | exact ⟨rfl, (decide_eq_false fun z => nomatch z).trans (by simp only [dEq])⟩
theorem any_flat {x : D} (f : flD x = true) : ∀ {ds : List D} {xs : List V}, RpAll K G xs ds → ds.all flD = true → xs.all flatV = true ∧ inV (dV x) xs = ds.any fun y => dEq y x
  | [], _, h, _ => by cases (show _ = _ from h); exact ⟨rfl, rfl⟩
  | d :: ds, _, h, g => by
    obtain ⟨v, r, rfl, q, t⟩ := h
    rw [List.all_cons, Bool.and_eq_true] at g
    obtain ⟨h1, h2⟩ := any_flat f t g.2
    have e := rp_flat g.1 q
    subst e
    refine ⟨?_, ?_⟩
    · rw [List.all_cons, h1, Bool.and_true]
      cases d <;> first | rfl | (exact absurd g.1 (by decide))
    · unfold inV at h2 ⊢
      rw [List.any_cons, List.any_cons, eqV_flat g.1 f, h2]
end
/-- may be compared -/
def okEq (d e : D) : Prop := scD d e = true ∨ (shD d = true ∧ shD e = true)
def eqG : G2 := fun d e P => okEq d e ∧ P (.bl (dEq d e))
def neG : G2 := fun d e P => okEq d e ∧ P (.bl (!dEq d e))
/-- x in y -/
def inB (x : D) : D → Option Bool
  | .lst l => if flD x && l.all flD || shD x && shD (.lst l) then some (l.any fun y => dEq y x) else none
  | .tup l => if flD x && l.all flD || shD x && shD (.tup l) then some (l.any fun y => dEq y x) else none
  | .str z => match x with
    | .str w => match w.cps.toList with
      | [c] => some (decide (c ∈ z.cps.toList))
      | _ => none
    | _ => none
  | _ => none
def inG : G2 := fun d e P => ∃ b, inB d e = some b ∧ P (.bl b)
def ninG : G2 := fun d e P => ∃ b, inB d e = some b ∧ P (.bl (!b))
def addG : G2 := fun d e P => match d, e with
  | .int i, .int j => P (.int (i + j))
  | .str a, .str b => a.length + b.length ≤ sizeLine ∧ P (.str (a ++ b))
  | .lst a, .lst b => a.length + b.length ≤ sizeLine ∧ P (.lst (a ++ b))
  | .tup a, .tup b => a.length + b.length ≤ sizeLine ∧ P (.tup (a ++ b))
  | _, _ => False
def intG (g : Int → Int → Prop) (f : Int → Int → D) : G2 := fun d e P => match d, e with
  | .int i, .int j => g i j ∧ P (f i j)
  | _, _ => False
abbrev subG : G2 := intG (fun _ _ => True) fun i j => .int (i - j)
abbrev mulG : G2 := intG CMul fun i j => .int (i * j)
abbrev modG : G2 := intG (fun _ j => 0 < j) fun i j => .int (i % j)
abbrev fdivG : G2 := intG CDivN fun i j => .int (i.fdiv j)
abbrev powG : G2 := intG CPow fun i j => .int (i ^ j.toNat)
abbrev shlG : G2 := intG CPow fun i j => .int (i * 2 ^ j.toNat)
abbrev shrG : G2 := intG (fun _ j => 0 ≤ j) fun i j => .int (i / 2 ^ j.toNat)
abbrev andG : G2 := intG (fun _ _ => True) fun i j => .int (Builtin.bitAnd i j)
abbrev orG : G2 := intG (fun _ _ => True) fun i j => .int (Builtin.bitOr i j)
abbrev ltG : G2 := intG (fun _ _ => True) fun i j => .bl (decide (i < j))
abbrev leG : G2 := intG (fun _ _ => True) fun i j => .bl (decide (i ≤ j))
abbrev gtG : G2 := intG (fun _ _ => True) fun i j => .bl (decide (j < i))
abbrev geG : G2 := intG (fun _ _ => True) fun i j => .bl (decide (j ≤ i))
def isNG : G2 := fun d e P => e = .non ∧ P (.bl (match d with | .non => true | _ => false))
def notNG : G2 := fun d e P => e = .non ∧ P (.bl (match d with | .non => false | _ => true))
section
variable {X : Cx} {K : PySem.W.Frag}
theorem dop_int {f : Value → Value → Sem Value} {g : Int → Int → Prop} {h : Int → Int → V} {k : Int → Int → D} (o : OpR X f (rI g h)) (hk : ∀ i j G, Rp K G (h i j) (k i j)) : OpR X f (RD2 K (intG g k)) := by
  intro pins s σ H x y v u Q I rx ry ⟨G, d, e, P, sg, rd, re, q, kk⟩
  cases d <;> cases e <;> first | exact q.elim | skip
  rename_i i j
  cases (show x = _ from rd)
  cases (show y = _ from re)
  exact o pins s σ H _ _ v u Q I rx ry ⟨i, j, rfl, rfl, q.1, kk _ _ _ _ q.2 (Ext.refl sg) (hk i j G)⟩
theorem dop_int0 {f : Value → Value → Sem Value} {h : Int → Int → V} {k : Int → Int → D} (o : OpR X f (rI0 h)) (hk : ∀ i j G, Rp K G (h i j) (k i j)) : OpR X f (RD2 K (intG (fun _ _ => True) k)) := by
  intro pins s σ H x y v u Q I rx ry ⟨G, d, e, P, sg, rd, re, q, kk⟩
  cases d <;> cases e <;> first | exact q.elim | skip
  rename_i i j
  cases (show x = _ from rd)
  cases (show y = _ from re)
  exact o pins s σ H _ _ v u Q I rx ry ⟨i, j, rfl, rfl, kk _ _ _ _ q.2 (Ext.refl sg) (hk i j G)⟩
theorem do_sub : OpR X (binaryOp .Sub) (RD2 K subG) := dop_int0 op_sub fun _ _ _ => rfl
theorem do_mul : OpR X (binaryOp .Mult) (RD2 K mulG) := dop_int op_mul fun _ _ _ => rfl
theorem do_mod : OpR X (binaryOp .Mod) (RD2 K modG) := dop_int op_mod fun _ _ _ => rfl
theorem do_fdiv : OpR X (binaryOp .FloorDiv) (RD2 K fdivG) := dop_int op_fdivN fun _ _ _ => rfl
theorem do_pow : OpR X (binaryOp .Pow) (RD2 K powG) := dop_int op_pow fun _ _ _ => rfl
theorem do_shl : OpR X (binaryOp .LShift) (RD2 K shlG) := dop_int op_shl fun _ _ _ => rfl
theorem do_shr : OpR X (binaryOp .RShift) (RD2 K shrG) := dop_int op_shr fun _ _ _ => rfl
theorem do_and : OpR X (binaryOp .BitAnd) (RD2 K andG) := dop_int0 op_and fun _ _ _ => rfl
theorem do_or : OpR X (binaryOp .BitOr) (RD2 K orG) := dop_int0 L2.op_or fun _ _ _ => rfl
theorem do_lt : OpR X (compareOp .Lt) (RD2 K ltG) := dop_int0 op_lt fun _ _ _ => rfl
theorem do_le : OpR X (compareOp .LtE) (RD2 K leG) := dop_int0 op_le fun _ _ _ => rfl
theorem do_gt : OpR X (compareOp .Gt) (RD2 K gtG) := dop_int0 op_gt fun _ _ _ => rfl
theorem do_ge : OpR X (compareOp .GtE) (RD2 K geG) := dop_int0 op_ge fun _ _ _ => rfl
theorem do_isN : OpR X (compareOp .Is) (RD2 K isNG) := by
  intro pins s σ H x y v u Q I rx ry ⟨G, d, e, P, sg, rd, re, ⟨ee, q⟩, kk⟩
  subst ee
  cases (show y = _ from re)
  refine op_isN pins s σ H _ _ v u Q I rx ry ⟨rfl, ?_⟩
  refine kk _ _ _ _ q (Ext.refl sg) ?_
  cases d with
  | non => cases (show x = _ from rd); exact rfl
  | bl b => cases (show x = _ from rd); exact rfl
  | int b => cases (show x = _ from rd); exact rfl
  | str b => cases (show x = _ from rd); exact rfl
  | lst l => obtain ⟨a, xs, rfl, _⟩ := rd; exact rfl
  | tup l => obtain ⟨a, xs, rfl, _⟩ := rd; exact rfl
  | ins C n l => obtain ⟨a, xs, w, rfl, _⟩ := rd; exact rfl
  | dcK n l => obtain ⟨a, xs, rfl, _⟩ := rd; exact rfl
  | dcT n l => obtain ⟨a, xs, rfl, _⟩ := rd; exact rfl
  | obj a => cases (show x = _ from rd); exact rfl
  | scr n => obtain ⟨a, rfl, _⟩ := rd; exact rfl
  | ty n => cases (show x = _ from rd); exact rfl
  | nms zs => obtain ⟨a, rfl, _⟩ := rd; exact rfl
  | kt zs => obtain ⟨a, rfl, _⟩ := rd; exact rfl
  | exc e e0 f d => obtain ⟨rfl, _⟩ := rd; exact rfl
theorem do_notN : OpR X (compareOp .IsNot) (RD2 K notNG) := by
  intro pins s σ H x y v u Q I rx ry ⟨G, d, e, P, sg, rd, re, ⟨ee, q⟩, kk⟩
  subst ee
  cases (show y = _ from re)
  refine op_notN pins s σ H _ _ v u Q I rx ry ⟨rfl, ?_⟩
  refine kk _ _ _ _ q (Ext.refl sg) ?_
  cases d with
  | non => cases (show x = _ from rd); exact rfl
  | bl b => cases (show x = _ from rd); exact rfl
  | int b => cases (show x = _ from rd); exact rfl
  | str b => cases (show x = _ from rd); exact rfl
  | lst l => obtain ⟨a, xs, rfl, _⟩ := rd; exact rfl
  | tup l => obtain ⟨a, xs, rfl, _⟩ := rd; exact rfl
  | ins C n l => obtain ⟨a, xs, w, rfl, _⟩ := rd; exact rfl
  | dcK n l => obtain ⟨a, xs, rfl, _⟩ := rd; exact rfl
  | dcT n l => obtain ⟨a, xs, rfl, _⟩ := rd; exact rfl
  | obj a => cases (show x = _ from rd); exact rfl
  | scr n => obtain ⟨a, rfl, _⟩ := rd; exact rfl
  | ty n => cases (show x = _ from rd); exact rfl
  | nms zs => obtain ⟨a, rfl, _⟩ := rd; exact rfl
  | kt zs => obtain ⟨a, rfl, _⟩ := rd; exact rfl
  | exc e e0 f d => obtain ⟨rfl, _⟩ := rd; exact rfl
theorem shD_dp {G H : Hp} {d : D} {v : V} (s : Same G H) (e : shD d = true) (h : Rp K G v d) : ∃ p, toPy d = some p ∧ Dp K H v p ∧ SeqAt.shaped p = true := by
  unfold shD at e
  split at e
  · rename_i p z
    exact ⟨p, z, dp_mono s _ _ (toPy_dp z h), e⟩
  · cases e
theorem do_eq (hK : X.K = K) (hu : X.A.units + 64 < cLine) : OpR X (compareOp .Eq) (RD2 K eqG) := by
  intro pins s σ H x y v u Q I rx ry ⟨G, d, e, P, sg, rd, re, ⟨o, q⟩, kk⟩
  subst hK
  rcases o with o | ⟨o1, o2⟩
  · obtain ⟨f1, f2⟩ := sc_flat o
    obtain ⟨h1, h2⟩ := sc_dec o
    cases rp_flat f1 rd
    cases rp_flat f2 re
    refine op_eq pins s σ H _ _ v u Q I rx ry ⟨h1, ?_⟩
    rw [h2]
    exact kk _ _ _ _ q (Ext.refl sg) rfl
  · obtain ⟨p1, e1, r1, s1⟩ := shD_dp sg o1 rd
    obtain ⟨p2, e2, r2, s2⟩ := shD_dp sg o2 re
    refine op_eqD hu pins s σ H _ _ v u Q I rx ry ⟨p1, p2, r1, r2, s1, s2, ?_⟩
    rw [← dEq_py e1 e2]
    exact kk _ _ _ _ q (Ext.refl sg) rfl
theorem do_ne (hK : X.K = K) (hu : X.A.units + 64 < cLine) : OpR X (compareOp .NotEq) (RD2 K neG) := by
  intro pins s σ H x y v u Q I rx ry ⟨G, d, e, P, sg, rd, re, ⟨o, q⟩, kk⟩
  subst hK
  rcases o with o | ⟨o1, o2⟩
  · obtain ⟨f1, f2⟩ := sc_flat o
    obtain ⟨h1, h2⟩ := sc_dec o
    cases rp_flat f1 rd
    cases rp_flat f2 re
    refine op_ne pins s σ H _ _ v u Q I rx ry ⟨h1, ?_⟩
    rw [h2]
    exact kk _ _ _ _ q (Ext.refl sg) rfl
  · obtain ⟨p1, e1, r1, s1⟩ := shD_dp sg o1 rd
    obtain ⟨p2, e2, r2, s2⟩ := shD_dp sg o2 re
    refine op_neD hu pins s σ H _ _ v u Q I rx ry ⟨p1, p2, r1, r2, s1, s2, ?_⟩
    rw [← dEq_py e1 e2]
    exact kk _ _ _ _ q (Ext.refl sg) rfl
theorem do_add (hK : X.K = K) : OpR X (binaryOp .Add) (RD2 K addG) := by
  intro pins s σ H x y v u Q I rx ry ⟨G, d, e, P, sg, rd, re, q, kk⟩
  subst hK
  cases d <;> cases e <;> first | exact q.elim | skip
  · rename_i i j
    cases (show x = _ from rd)
    cases (show y = _ from re)
    exact op_add pins s σ H _ _ v u Q I rx ry ⟨i, j, rfl, rfl, kk _ _ _ _ q (Ext.refl sg) rfl⟩
  · rename_i i j
    cases (show x = _ from rd)
    cases (show y = _ from re)
    exact op_add_str pins s σ H _ _ v u Q I rx ry ⟨i, j, rfl, rfl, q.1, kk _ _ _ _ q.2 (Ext.refl sg) rfl⟩
  · rename_i l m
    obtain ⟨a, xs, rfl, h1, r1⟩ := rd
    obtain ⟨b, ys, rfl, h2, r2⟩ := re
    obtain ⟨qz, q⟩ := q
    rw [← r1.len, ← r2.len] at qz
    refine op_cat pins s σ H _ _ v u Q I rx ry ⟨a, b, xs, ys, rfl, rfl, sg _ _ h1, sg _ _ h2, qz, fun p hp => ?_⟩
    have e := Ext.new (o := .lst (xs ++ ys)) sg hp
    exact kk _ _ _ _ q e ⟨p, _, rfl, upd_same, (r1.app r2).mono e.g⟩
  · rename_i l m
    obtain ⟨a, xs, rfl, h1, r1⟩ := rd
    obtain ⟨b, ys, rfl, h2, r2⟩ := re
    have t1 := same_sqT sg h1
    have t2 := same_sqT sg h2
    obtain ⟨qz, q⟩ := q
    rw [← r1.len, ← r2.len] at qz
    refine op_catA pins s σ H _ _ v u Q I rx ry ⟨a, b, xs, ys, rfl, rfl, t1, t2, qz, fun z => ?_, fun _ z => ?_, fun _ _ p hp => ?_⟩
    · subst z
      have := r1.len
      cases l with
      | nil => exact kk _ _ _ _ q (Ext.refl sg) ⟨b, ys, rfl, h2, r2⟩
      | cons _ _ => cases this
    · subst z
      have := r2.len
      cases m with
      | nil => exact kk (.tup l) _ _ _ (by rw [List.append_nil] at q; exact q) (Ext.refl sg) ⟨a, xs, rfl, h1, r1⟩
      | cons _ _ => cases this
    · have e := Ext.new (o := .tup (xs ++ ys)) sg hp
      exact kk _ _ _ _ q e ⟨p, _, rfl, SqT.of upd_same, (r1.app r2).mono e.g⟩
end
end Vf

set_option Elab.async false
set_option linter.all false
set_option maxRecDepth 100000
set_option maxHeartbeats 4000000
/-! {e for x in xs}, whatever its members are -/
namespace Vf
open PySem PySem.Spec PyProof.Rows L2 PpSet

/-- sets of one kind: the empty one at D; what is asked when y is added to the one at D -/
structure SetLaw (X : Cx) (ini : Addr → HO) (put : Hp → Addr → V → (Hp → Prop) → Prop) : Prop where
  new : ∀ {H : Hp} {h : Heap} {a : Addr}, h.get? a = some { cls := .type "set", dict := none, data := .set #[] 0 (.fresh 0 0 (!X.w.params.followText "set-order")) } → ObjOk X.prog X.w H h a (ini a)
  add : ∀ (Y : Cx), Y.prog = X.prog → Y.w = X.w → Y.K = X.K → Y.A = X.A → ∀ {pins : List (Addr × Obj)} {σ : L2.St} {H : Hp} {s : Shared} {D : Addr} {y : V} {v : Value} {Nx : Hp → Prop} {E : Value → Shared → Prop} {Q : Value → Shared → Prop}, Inv Y pins σ H s → RelV y v → put H D y Nx →
    (∀ s' H', Inv Y pins σ H' s' → Nx H' → Q .none s') → wpAny (model Y.prog Y.w) Y.A (call (.builtin "set.add") [.ref D, v]) Q E s
def tSetC (ini : Addr → HO) (put : Hp → Addr → V → (Hp → Prop) → Prop) (wi : TI) (g : TG) (tt : TT) (te : TE) (vs : List Nat) : TE := fun σ H Q => wi σ H fun J H1 => ∀ D, H1 D = none → ∃ W : Nat → Nat → Hp → Prop, (∃ m, W 0 m (upd H1 D (ini D))) ∧ ∀ i m H, W i m H →
  (J.stop i H ∧ Q (.ref D) H) ∨ (J.go i H ∧ ∃ Nx : Hp → Prop, (∀ H', Nx H' → ∃ m', m' < m ∧ W (i + 1) m' H') ∧ ∀ x H', J.yld i H x H' → g x (wipe σ vs) H' fun σ2 H2 => wipe σ2 vs = wipe σ vs ∧ tt σ2 H2 fun b H3 =>
    if b = true then te σ2 H3 fun y H4 => put H4 D y Nx else Nx H3)
section
variable {X : Cx} {ini : Addr → HO} {put : Hp → Addr → V → (Hp → Prop) → Prop}
theorem pe_setC {elt tg iter : Expr} {ifs : List Expr} {scope : Scope} {own : List (PySem.Str × Nat)} {pos : Pos} {wi : TI} {g : TG} {tt : TT} {te : TE} (L : SetLaw X ini put) (hc : X.calm = true) (hN : X.N.Nodup) (hi : PI X tg iter wi) (ok : BlkOk X.N X.env.scope scope own)
    (hg : ∀ (s : Shared) (H : Hp) (C : Addr) (cl : List (PySem.Str × Addr)) (fp : List Addr), PG (X.blk s H scope (compEnvC scope cl C X.env) fp) tg g) (ht : ∀ (s : Shared) (H : Hp) (C : Addr) (cl : List (PySem.Str × Addr)) (fp : List Addr), PTs (X.blk s H scope (compEnvC scope cl C X.env) fp) ifs tt)
    (he : ∀ (s : Shared) (H : Hp) (C : Addr) (cl : List (PySem.Str × Addr)) (fp : List Addr), PE (X.blk s H scope (compEnvC scope cl C X.env) fp) elt te) (hs : ∀ x, foldedSetIterable iter X.env x = pure x := by intro _; rfl) :
    PE X (.SetComp elt [⟨tg, iter, ifs, 0⟩] scope pos) (tSetC ini put wi g tt te (own.map (·.2))) := by
  refine ⟨fun pins s σ H Q I h => ?_⟩
  rw [eval_SetComp]
  have clo : ∀ y ∈ scope.names, y.2 = .free → ∃ c, X.env.cells.lookup y.1 = some c := fun y hy e => (ok.free y hy e).elim (fun k => I.ok.has _ (.inl k)) fun k => I.ok.has _ (.inr k)
  refine wpAny_comprehension_free (use := none) rfl hs (closure_ok clo) ok.kind (fun y hy e => by rw [ok.uniq y hy, e]) (thn (hi.run pins s σ H _ I h) fun xv s1 hx => thn hx fun itv s2 ⟨it, fp, tn, J, H2, eit, I2, T, st2, f2, q⟩ => ?_)
  subst eit
  refine newSet_ok (newEnv_comp ?_)
  -- the new set at D
  obtain ⟨D, hD⟩ : ∃ D, D = s2.heap.objs.size := ⟨_, rfl⟩
  rw [← hD]
  have nD : H2 D = none := I2.hok.fresh (Nat.le_of_eq hD.symm)
  obtain ⟨W, ⟨m0, w0⟩, turn⟩ := q D nD
  obtain ⟨s3, es3⟩ : ∃ s3 : Shared, s3 = { s2 with heap := s2.heap.push { cls := .type "set", dict := none, data := .set #[] 0 (.fresh 0 0 (!X.w.params.followText "set-order")) } } := ⟨_, rfl⟩
  rw [← es3]
  have h3 : s3.heap = s2.heap.push { cls := .type "set", dict := none, data := .set #[] 0 (.fresh 0 0 (!X.w.params.followText "set-order")) } := by rw [es3]
  obtain ⟨H3, eH3⟩ : ∃ H3, H3 = upd H2 D (ini D) := ⟨_, rfl⟩
  rw [← eH3] at w0
  have I3 : Inv X pins σ H3 s3 := by
    rw [es3, eH3]
    refine I2.laid (t' := s2.toks) (fun b o e => Heap.get?_push_of_some _ e) (Nat.le_of_eq hD.symm) (L.new ?_)
    rw [hD]
    exact Heap.get?_push_size _ rfl
  have f3 : ∀ b ∈ fp, FpOk X pins H3 b ∧ b < s3.heap.objs.size := fun b hb => by
    obtain ⟨o, e, _⟩ := T.obj _ _ st2 b hb
    have lt := Heap.lt_size e
    refine ⟨⟨?_, (f2 b hb).2⟩, by rw [h3, Heap.size_push]; exact Nat.lt_succ_of_lt lt⟩
    rw [eH3, upd_ne (by rw [hD]; exact Nat.ne_of_lt lt)]
    exact (f2 b hb).1
  have st3 : tn 0 s3.heap := T.keep _ _ _ st2 fun b _ o e => by rw [h3]; exact Heap.get?_push_of_some _ e
  have n3 : ∀ b ∈ fp, H3 b = none := fun b hb => (f3 b hb).1.1
  have I4 := block_start I3 ok hN f3
  obtain ⟨C, hC⟩ : ∃ C, C = s3.heap.objs.size := ⟨_, rfl⟩
  rw [← hC] at I4 ⊢
  obtain ⟨cl, hcl⟩ : ∃ cl, cl = cellsFrom (C + 1) scope.names (cloFrom X.env.cells scope.names []) := ⟨_, rfl⟩
  rw [← hcl] at I4 ⊢
  have pg := hg s3 H3 C cl fp
  have pt := ht s3 H3 C cl fp
  have pe := he s3 H3 C cl fp
  show codeAny _ _ (.compStart (.SetComp elt [⟨tg, iter, ifs, 0⟩] scope pos) 0 (.ref it) (.ref D) (compEnvC scope cl C X.env)) (compPost (model X.prog X.w) X.A X.xe none _ (.ref D) C) _
  obtain ⟨ce, hce⟩ : ∃ ce, ce = compEnvC scope cl C X.env := ⟨_, rfl⟩
  rw [← hce] at I4 pg pt pe ⊢
  have cL : ce.locals = C := by rw [hce] <;> rfl
  obtain ⟨s4, es4⟩ : ∃ s4 : Shared, s4 = { s3 with heap := pushCells (s3.heap.push { cls := .type "dict", data := .dict #[] }) scope.names } := ⟨_, rfl⟩
  show codeAny _ _ _ _ { s3 with heap := pushCells (s3.heap.push { cls := .type "dict", data := .dict #[] }) scope.names }
  rw [← es4]
  have I4 : Inv (X.blk s3 H3 scope ce fp) [] (wipe σ (own.map (·.2))) H3 s4 := by
    rw [es4]
    exact I4
  have st4 : tn 0 s4.heap := T.keep _ _ _ st3 fun b _ o e => by rw [es4]; exact pushCells_keeps _ _ _ _ (Heap.get?_push_of_some _ e)
  have stat : ∀ {σ' : L2.St} {H' : Hp} {s' : Shared}, Inv (X.blk s3 H3 scope ce fp) [] σ' H' s' → (∀ b ∈ fp, H' b = none) → ∀ b ∈ fp, FpOk (X.blk s3 H3 scope ce fp) [] H' b := fun {σ' H' s'} I' hn b hb =>
    ⟨hn b hb, (I'.ok.exf b hb).1, I'.ok.exfs b hb, .inl hb, fun x c e => (I'.ok.exf b hb).2 x c e, fun p hp => absurd (show p ∈ ([] : List (Addr × Obj)) ++ [] from hp) (by simp)⟩
  have loop : codeAny (model X.prog X.w) X.A (.compLoop (.SetComp elt [⟨tg, iter, ifs, 0⟩] scope pos) 0 (.ref it) (.ref D) ce) (compPost (model X.prog X.w) X.A X.xe none (EP X pins σ Q) (.ref D) C) s4 := by
    refine compLoopS_any (fun n s' => ∃ i H', Inv (X.blk s3 H3 scope ce fp) [] (wipe σ (own.map (·.2))) H' s' ∧ tn i s'.heap ∧ (∀ b ∈ fp, H' b = none) ∧ W i n H') ?_ m0 ⟨0, H3, I4, st4, n3, w0⟩
    rintro n s5 ⟨i, H5, I5, st5, n5, w5⟩
    rcases turn i n H5 w5 with ⟨stop, qq⟩ | ⟨go, Nx, hNx, step⟩
    · refine thnF (T.done (X.blk s3 H3 scope ce fp) rfl rfl rfl hc i [] s5 _ H5 (fun _ _ => False) I5 (stat I5 n5) st5 stop) fun r s6 ⟨hr, I6⟩ => ?_
      subst hr
      have I7 : Inv X pins σ H5 s6 := I3.call' (ch := fp) I6.os I6.base I6.hok I6.bare fun b hb => ⟨(f3 b hb).1.2.2.2.1, (f3 b hb).1.2.1, (f3 b hb).1.2.2.2.2.1, (f3 b hb).1.2.2.2.2.2⟩
      have nC : H5 C = none := by
        have z : H5 ce.locals = none := I6.free
        rwa [cL] at z
      obtain ⟨m, hn, _⟩ := I6.loc
      have hn : s6.heap.Ns ce.locals m := hn
      rw [cL] at hn
      refine ⟨m, hn, fun h'' sb => ?_⟩
      obtain ⟨k0, k1, k2, k3, k4, k5⟩ := I3.fpOk (Nat.le_of_eq hC.symm) nC
      exact ⟨.ref D, H5, I7.turned (t' := s6.toks) (fun b o hb e => (sb.2 b hb).trans e) k0 k1 k3 k4 k5, rfl, qq⟩
    · refine thnF (T.item (X.blk s3 H3 scope ce fp) rfl rfl rfl hc i [] s5 _ H5 (fun _ _ => False) I5 (stat I5 n5) st5 go) fun r s6 ⟨u, hr, h6⟩ => ?_
      subst hr
      refine thnF h6 fun _ s7 ⟨x, H7, I7, r7, y7, st7, n7⟩ => ?_
      refine thnF (pg.run _ s7 _ H7 x u _ (I7.pinned (stat I7 n7) (T.obj _ _ st7)) r7 (step x H7 y7)) fun _ s8 ⟨σ8, H8, I8, hw8, q8⟩ => ?_
      refine thnF (pt.run _ s8 σ8 H8 _ I8 q8) fun b s9 ⟨H9, I9, q9⟩ => ?_
      have back : ∀ {s' : Shared} {H' : Hp}, Inv (X.blk s3 H3 scope ce fp) ([] ++ pinsAt fp s7.heap) σ8 H' s' → Nx H' → ∃ m, m < n ∧ ∃ i H', Inv (X.blk s3 H3 scope ce fp) [] (wipe σ (own.map (·.2))) H' s' ∧ tn i s'.heap ∧ (∀ b ∈ fp, H' b = none) ∧ W i m H' := fun {s' H'} I' nx => by
        obtain ⟨m', hm, w'⟩ := hNx H' nx
        have pin : ∀ b ∈ fp, ∀ o, s7.heap.get? b = some o → s'.heap.get? b = some o ∧ H' b = none := fun b hb o e =>
          have z := I'.pin (b, o) (List.mem_append_right _ (List.mem_append_right _ (mem_pinsAt hb e)))
          ⟨z.1, z.2.1⟩
        refine ⟨m', hm, i + 1, H', (I'.unpinned (pins := [])).weak (by rw [← hw8, wipe_length]) (fun j v e => ?_), T.keep _ _ _ st7 fun b hb o e => (pin b hb o e).1, fun b hb => ?_, w'⟩
        · rw [← hw8] at e
          exact (wipe_some e).1
        · obtain ⟨o, e, _⟩ := T.obj _ _ st7 b hb
          exact (pin b hb o e).2
      cases b with
      | false =>
        rw [if_neg (by decide)] at q9 ⊢
        exact back I9 q9
      | true =>
        rw [if_pos rfl] at q9 ⊢
        refine thnF (pe.run _ s9 σ8 H9 _ I9 q9) fun z s10 ⟨yv, H10, I10, r10, hp⟩ => ?_
        exact L.add (X.blk s3 H3 scope ce fp) rfl rfl rfl rfl I10 r10 hp fun s11 H11 I11 nx => back I11 nx
  exact codeAny_compStart_set loop (T.self X.A 0 _ _ _ st4 loop)

/-! tuples of keys -/
def putTs (P : Program) (w : World) (K : PySem.W.Frag) : Hp → Addr → V → (Hp → Prop) → Prop := fun H D y Nx => ∃ (x : Addr) (k : List Key) (L : List (Addr × List Key)), y = .ref x ∧ SqT K H x (k.map kV) ∧ H D = some (TsO P w D L) ∧ TKs K H L ∧ L.length + 1 < 64 ∧
  ∀ L', Put L L' x k → Nx (upd H D (TsO P w D L'))
theorem law_ts (hu : X.A.units + 8 < cLine) : SetLaw X (fun D => TsO X.prog X.w D []) (putTs X.prog X.w X.K) where
  new := fun ho => tsO_new (ts0_of (tsAt_new ho))
  add := fun Y e1 e2 e3 e4 {pins σ H s D y v Nx E Q} I r p h => by
    obtain ⟨x, k, L, rfl, hx, hD, ht, few, nx⟩ := p
    cases r
    rw [← e1, ← e2] at hD nx
    rw [← e3] at hx ht
    rw [← e4] at hu
    exact ts_adds I hu hD ht hx few fun L' s' pl I' => h s' _ I' (nx L' pl)
/-- len of such a set -/
theorem cr_lenTs : CallR X (.builtin "len") (fun vs H Q => ∃ a L, vs = [V.ref a] ∧ H a = some (TsO X.prog X.w a L) ∧ Q (.int L.length) H) := by
  intro pins s σ H vs us Q I r h
  obtain ⟨a, L, rfl, ha, q⟩ := h
  rw [Vals.ref1 r]
  obtain ⟨es, ep, t, ⟨o, ho, hex, hd⟩, he, T, nd, ld, rm, lt⟩ : Ts0 X.prog X.w s.heap a L := (I.hok a _ ha).1
  have hl := ents_len he
  have hf : t.fits es.size = true := by
    have h1 : t.place.size = L.length := T.sz.trans (List.length_map _)
    unfold SetTable.fits SetTable.fill
    rw [T.dm, Bool.and_eq_true, beq_iff_eq, decide_eq_true_eq]
    show t.place.size = es.size ∧ t.place.size + 0 ≤ t.mask
    omega
  refine call_len_set ho hex hd hf (by rw [hl]; omega) ⟨.int L.length, H, I.tok _, ⟨_, by rw [hl]⟩, q⟩
end
/-- over a list or a tuple -/
theorem setC_seq {ini : Addr → HO} {put : Hp → Addr → V → (Hp → Prop) → Prop} {b : Bool} {K : PySem.W.Frag} {a : Addr} {xs : List V} {g : TG} {tt : TT} {te : TE} {vs : List Nat} {σ : L2.St} {H1 : Hp} {D : Addr} {Qd : Hp → Prop} (Pv : Nat → Hp → Prop) (h0 : Pv 0 (upd H1 D (ini D))) (hl : ∀ i H, i ≤ xs.length → Pv i H → SqB b K H a xs)
    (hs : ∀ i x H, xs[i]? = some x → Pv i H → g x (wipe σ vs) H fun σ2 H2 => wipe σ2 vs = wipe σ vs ∧ tt σ2 H2 fun c H3 => if c = true then te σ2 H3 fun y H4 => put H4 D y (Pv (i + 1)) else Pv (i + 1) H3) (hd : ∀ H, Pv xs.length H → Qd H) :
    ∃ W : Nat → Nat → Hp → Prop, (∃ m, W 0 m (upd H1 D (ini D))) ∧ ∀ i m H, W i m H →
      ((ItB b K a).stop i H ∧ Qd H) ∨ ((ItB b K a).go i H ∧ ∃ Nx : Hp → Prop, (∀ H', Nx H' → ∃ m', m' < m ∧ W (i + 1) m' H') ∧ ∀ x H', (ItB b K a).yld i H x H' → g x (wipe σ vs) H' fun σ2 H2 => wipe σ2 vs = wipe σ vs ∧ tt σ2 H2 fun c H3 =>
        if c = true then te σ2 H3 fun y H4 => put H4 D y Nx else Nx H3) := by
  refine ⟨fun i m H => m = xs.length - i ∧ i ≤ xs.length ∧ Pv i H, ⟨xs.length, by simp, Nat.zero_le _, h0⟩, ?_⟩
  rintro i m H ⟨rfl, hi, p⟩
  have q := hl i H hi p
  by_cases hlt : i < xs.length
  · refine .inr ⟨?_, Pv (i + 1), fun H' p' => ⟨xs.length - (i + 1), by omega, rfl, hlt, p'⟩, fun x H' y => ?_⟩
    · cases b <;> exact ⟨xs, xs[i], q, by simp [hlt]⟩
    · cases b
      · obtain ⟨e, y⟩ := y
        rw [e]
        exact hs i x _ (y xs q) p
      · obtain ⟨e, y⟩ := y
        rw [e]
        exact hs i x _ (y xs q) p
  · have e : i = xs.length := by omega
    subst e
    refine .inl ⟨?_, hd H p⟩
    cases b <;> exact ⟨xs, q, Nat.le_refl _⟩
end Vf

set_option Elab.async false
set_option linter.all false
set_option maxRecDepth 100000
set_option maxHeartbeats 4000000
/-! len(set(xs)), xs a list or a tuple of texts -/
namespace Vf
open PySem PySem.Spec PyProof.Rows L2

theorem nodup_snoc {α : Type} {l : List α} {x : α} : (l ++ [x]).Nodup ↔ l.Nodup ∧ x ∉ l := by
  rw [List.nodup_append]
  constructor
  · rintro ⟨h1, _, h3⟩
    exact ⟨h1, fun z => h3 x z x (List.mem_singleton.mpr rfl) rfl⟩
  · rintro ⟨h1, h2⟩
    refine ⟨h1, List.nodup_cons.mpr ⟨List.not_mem_nil, List.nodup_nil⟩, fun y hy z hz e => ?_⟩
    rw [List.mem_singleton.mp hz] at e
    exact h2 (e ▸ hy)
/-- n: how many unlike ones there are among them -/
def Unlike (xs : List Str) (n : Nat) : Prop := n ≤ xs.length ∧ (n = xs.length ↔ xs.Nodup)
theorem unlike_nil : Unlike [] 0 := ⟨Nat.le_refl _, ⟨fun _ => List.nodup_nil, fun _ => rfl⟩⟩
theorem unlike_old {xs : List Str} {n : Nat} {x : Str} (u : Unlike xs n) (h : x ∈ xs) : Unlike (xs ++ [x]) n := by
  have hl : (xs ++ [x]).length = xs.length + 1 := List.length_append
  refine ⟨by rw [hl]; exact Nat.le_succ_of_le u.1, fun e => ?_, fun e => absurd h (nodup_snoc.mp e).2⟩
  have := u.1
  omega
theorem unlike_new {xs : List Str} {n : Nat} {x : Str} (u : Unlike xs n) (h : x ∉ xs) : Unlike (xs ++ [x]) (n + 1) := by
  have hl : (xs ++ [x]).length = xs.length + 1 := List.length_append
  refine ⟨by rw [hl]; exact Nat.succ_le_succ u.1, fun e => nodup_snoc.mpr ⟨u.2.mp (by omega), h⟩, fun e => ?_⟩
  rw [hl, u.2.mpr (nodup_snoc.mp e).1]
section
variable {prog : Program} {w : World} {A : Around} {E : Value → Shared → Prop} {s : Shared}
/-- the set of the first i -/
def SetUpTo (prog : Program) (w : World) (h : Heap) (S : Addr) (xs : List Str) (i : Nat) : Prop := ∃ n, Unlike (xs.take i) n ∧ h.SetOf (PySem.strKind prog w) S (fun k => decide (k ∈ xs.take i)) n
theorem SetUpTo.at {h h' : Heap} {S : Addr} {xs : List Str} {i : Nat} (g : SetUpTo prog w h S xs i) (k : ∀ o, h.get? S = some o → h'.get? S = some o) : SetUpTo prog w h' S xs i := by
  obtain ⟨n, u, o, es, ep, t, ho, r⟩ := g
  exact ⟨n, u, o, es, ep, t, k o ho, r⟩
theorem update_strs {I : Addr} {fp wr : List Addr} {G : Array GenState → Array GenState → Prop} {n : Nat} {Pv : Nat → Value → Prop} {St : Nat → Shared → Prop} {R : Result → Shared → Prop}
    (W : WalksS prog w A.in1 I fp wr G n Pv St) (S : Addr) (hS : S ∉ fp) (xs : List Str) (hn : xs.length = n) (room : n + 1 < scanBound) (hv : ∀ i v, Pv i v → ∃ x t, xs[i]? = some x ∧ v = .str x t) :
    ∀ (k i : Nat) (s : Shared), n - i = k → i ≤ n → St i s → SetUpTo prog w s.heap S xs i → (∀ s', Moved (S :: wr) G s s' → SetUpTo prog w s'.heap S xs n → R (.ok (.ret .none)) s') →
      codeAny (model prog w) A (.builtin "set.update.loop" ⟨[.ref S, .ref I], []⟩) R s := by
  have Sw : S ∉ wr := fun h => hS (W.sub _ h)
  have sub : ∀ b ∈ wr, b ∈ S :: wr := fun b hb => List.mem_cons_of_mem _ hb
  intro k
  induction k with
  | zero =>
    intro i s hk hi hst g hR
    obtain rfl : i = n := by omega
    refine codeAny_builtin PyProof.Rows.F.entry_set_update_loop ?_
    rw [Around.under_plainId PyProof.Rows.F.plain_set_update_loop _]
    show wpAny _ A.in1 (pyNext (.ref I) >>= _) _ _ s
    refine wpAny_bind (W.done s _ _ hst fun s' hm => ?_)
    show wpAny _ A.in1 (ret Value.none) _ _ s'
    exact wpAny_pure (hR s' (hm.mono sub) (g.at fun o e => hm.heap S o Sw e))
  | succ k ih =>
    intro i s hk hi hst g hR
    have lt : i < n := by omega
    refine codeAny_builtin PyProof.Rows.F.entry_set_update_loop ?_
    rw [Around.under_plainId PyProof.Rows.F.plain_set_update_loop _]
    show wpAny _ A.in1 (pyNext (.ref I) >>= _) _ _ s
    refine wpAny_bind (W.item i s _ _ lt hst fun v s' hP hst' hm => ?_)
    obtain ⟨x, t, hx, rfl⟩ := hv i v hP
    obtain ⟨m, u, g'⟩ := g.at (h' := s'.heap) fun o e => hm.heap S o Sw e
    have hm1 : m ≤ i := Nat.le_trans u.1 (by rw [List.length_take]; omega)
    show wpAny _ A.in1 (holding [Value.str x t] (setAdd S (.str x t)) >>= _) _ _ s'
    refine wpAny_bind (wpAny_holding ?_)
    unfold setAdd
    refine wpAny_holding ?_
    refine wpAny_bind ((PySem.strKind prog w).pyHash (k := x) (strKind_is _ _ _ _) ?_)
    refine wpAny_setAddHashed_of (knd := PySem.strKind prog w) (s := { s' with toks := s'.toks + 1 }) (strKind_is _ _ _ _) rfl g' (by omega) fun h' hsb hS2 => ?_
    have et : xs.take (i + 1) = xs.take i ++ [x] := take_next hx
    have g2 : SetUpTo prog w h' S xs (i + 1) := by
      unfold SetUpTo
      rw [et]
      by_cases c : x ∈ xs.take i
      · exact ⟨_, unlike_old u c, SetOf_congr hS2 (fun k' => by
          simp only [List.mem_append, List.mem_singleton]
          rw [Bool.eq_iff_iff]
          simp) (by simp [c])⟩
      · exact ⟨_, unlike_new u c, SetOf_congr hS2 (fun k' => by
          simp only [List.mem_append, List.mem_singleton]
          rw [Bool.eq_iff_iff]
          simp) (by simp [c])⟩
    refine wpAny_pure ⟨plainId_quiet PyProof.Rows.F.plain_set_update_loop _, ih (i + 1) _ (by omega) lt (W.frame _ s' _ _ hst' (Nat.le_succ _) fun b hb o e => ?_) g2 fun s'' hm'' gg => ?_⟩
    · exact (hsb.2 b fun z : b = S => hS (z ▸ hb)).trans e
    · refine hR s'' (Moved.trans W.gtrans ((hm.mono sub).then_heap (Nat.le_succ _) fun b o hb e => ?_) hm'') gg
      exact (hsb.2 b fun z : b = S => hb (z ▸ List.mem_cons_self)).trans e
end
end Vf

set_option Elab.async false
set_option linter.all false
set_option maxRecDepth 100000
set_option maxHeartbeats 8000000
namespace Vf
open PySem PySem.Spec PyProof.Rows L2
section
variable {prog : Program} {w : World} {A : Around} {E : Value → Shared → Prop} {s : Shared}
theorem init_walk {S l : Addr} {T : String} {R : PySem.Fin → Shared → Prop} {led : Bool} {od : Option Addr} {osl : Array (Option Value)} {items : Array Value} {nl : Nat} (hS : s.heap.get? S = some { cls := .type "set", dict := none, data := .set #[] 0 (.fresh 0 0 led) })
    (ho1 : s.heap.get? l = some { cls := .type T, dict := od, data := .seq items nl, slots := osl }) (y1 : isSubtype (.type T) (.type "set") = pure false) (y2 : isSubtype (.type T) (.type "frozenset") = pure false) (y3 : (Value.type T == Value.type "dict") = false)
    (h : wpAny (model prog w) A (pyIter (.ref l)) (fun it s' => wpAny (model prog w) A (runValue (.builtin "set.update.loop" ⟨[.ref S, it], []⟩)) (fun _ s'' => R (.done (.ret .none)) s'') E s') E s) :
    wpAny (model prog w) A (Builtin.«set.__init__» ⟨[.ref S, .ref l], []⟩) R E s := by
  have hTS : Shared.TypeIs s (.ref S) "set" := ⟨_, hS, rfl⟩
  have hTl : Shared.TypeIs s (.ref l) T := ⟨_, ho1, rfl⟩
  obtain ⟨hp, g, d, tk, os⟩ := s
  unfold Builtin.«set.__init__» noKeywords Builtin.Frozenset.updateFrom
  generalize hPI : pyIter = PI at h
  generalize hRV : runValue = RV at h
  wp_walk
  refine wpAny_mono h (fun it s' h' => ?_) fun _ _ e => e
  refine wpAny_bind (wpAny_mono h' (fun r s'' h'' => ?_) fun _ _ e => e)
  exact wpAny_pure (show wpAny _ _ (ret Value.none) _ _ _ from wpAny_pure h'')
end
end Vf

set_option Elab.async false
set_option linter.all false
set_option maxRecDepth 100000
set_option maxHeartbeats 8000000
namespace Vf
open PySem PySem.Spec PyProof.Rows L2
section
variable {prog : Program} {w : World} {A : Around} {E : Value → Shared → Prop} {s : Shared}
theorem set_of_strs {l : Addr} {T : String} {o : Obj} {items : Array Value} {nl : Nat} {xs : List Str} {Q : Value → Shared → Prop} (hh : A.handled = none) (hT : T = "list" ∨ T = "tuple") (ho : s.heap.get? l = some o) (hc : o.cls = .type T) (hd : o.data = .seq items nl)
    (hi : StrsAre items.toList xs) (room : xs.length + 1 < scanBound)
    (h : ∀ (h' : Heap) (tk : Nat), SetUpTo prog w h' s.heap.objs.size xs xs.length → (∀ b o, b < s.heap.objs.size → s.heap.get? b = some o → h'.get? b = some o) → Q (.ref s.heap.objs.size) { s with heap := h', toks := tk }) :
    wpAny (model prog w) A (call (.type "set") [.ref l]) Q E s := by
  have hsz : xs.length = items.size := by rw [← StrsAre.len_eq hi, Array.length_toList]
  obtain ⟨c, tl, hmro⟩ := PySem.F.called_set.mro
  have hmade := PySem.F.called_set.made
  have hsub := PySem.F.called_set.sub
  have h1 := PySem.F.called_set.notType
  have h2 := PySem.F.called_set.canCreate
  have hct := PySem.F.typeCall_set_1 (.ref l)
  refine wpAny_call (codeAny_of_tree ?_)
  show wpAny _ _ (callAny (.type "set") _) _ _ _
  refine wpAny_pure ⟨Code.quiet_builtin _ (by decide +kernel), codeAny_builtin PySem.F.entry_type_call ?_⟩
  rw [Around.under_plain (weight_type_call_type "set" [.ref l] []) rfl]
  repeat (any_goals (first | assumption | wp_step))
  -- the new one
  refine codeAny_mono (code_set_new_1 (.ref l) (E := E) (Q₁ := fun obj s₁ => ∃ led : Bool, obj = .ref s.heap.objs.size ∧ s₁ = { s with heap := s.heap.push { cls := .type "set", dict := none, data := .set #[] 0 (.fresh 0 0 led) } }) fun led => ⟨led, rfl, rfl⟩) fun r s₁ hr => ?_
  cases r with
  | error e => exact hr
  | ok fl =>
  cases fl with
  | next => exact hr.elim
  | brk => exact hr.elim
  | cont => exact hr.elim
  | ret obj =>
  obtain ⟨led, rfl, rfl⟩ := hr
  have hS : (s.heap.push { cls := .type "set", dict := none, data := .set #[] 0 (.fresh 0 0 led) }).get? s.heap.objs.size = some { cls := .type "set", dict := none, data := .set #[] 0 (.fresh 0 0 led) } := Heap.get?_push_size _ rfl
  have hTS : Shared.TypeIs { s with heap := s.heap.push { cls := .type "set", dict := none, data := .set #[] 0 (.fresh 0 0 led) } } (.ref s.heap.objs.size) "set" := ⟨_, hS, rfl⟩
  have hli := PySem.F.called_set.init.lookup
  have hbi := PySem.F.called_set.init.bind (.ref s.heap.objs.size)
  repeat (any_goals (first | assumption | wp_step))
  refine codeAny_mono (codeAny_call_builtin (R := wants (fun r s₂ => r = .none ∧ ∃ h' tk, s₂ = { s with heap := h', toks := tk } ∧ SetUpTo prog w h' s.heap.objs.size xs xs.length ∧
      (∀ b o, b < s.heap.objs.size → s.heap.get? b = some o → h'.get? b = some o)) E) PySem.F.called_set.init.plain PySem.F.entry_set_init (check_set_init_1 hTS ?_)) fun r₂ s₂ hr₂ => ?_
  · have rest : (∀ (i : Nat) (v : Value), items[i]? = some v → ∃ x t, xs[i]? = some x ∧ v = .str x t) ∧ l ≠ (s.heap.push { cls := .type "set", dict := none, data := .set #[] 0 (.fresh 0 0 led) }).objs.size ∧
        s.heap.objs.size ∉ [(s.heap.push { cls := .type "set", dict := none, data := .set #[] 0 (.fresh 0 0 led) }).objs.size, l] ∧ (∀ b, b < s.heap.objs.size → b ≠ (s.heap.push { cls := .type "set", dict := none, data := .set #[] 0 (.fresh 0 0 led) }).objs.size) ∧ A.in1.in1.in1.handled = none ∧
        ∀ (s' : Shared) (h4 : Heap), (∀ b o, s.heap.get? b = some o → h4.get? b = some o) → Moved (s.heap.objs.size :: [(s.heap.push { cls := .type "set", dict := none, data := .set #[] 0 (.fresh 0 0 led) }).objs.size]) (fun g g' => g' = g) { s with heap := h4 } s' → SetUpTo prog w s'.heap s.heap.objs.size xs items.size →
          ∃ h' tk, s' = { s with heap := h', toks := tk } ∧ SetUpTo prog w h' s.heap.objs.size xs xs.length ∧ ∀ b o, b < s.heap.objs.size → s.heap.get? b = some o → h'.get? b = some o := by
      have lS : l < s.heap.objs.size := Heap.lt_size ho
      have nb : ∀ b, b < s.heap.objs.size → b ≠ (s.heap.push { cls := .type "set", dict := none, data := .set #[] 0 (.fresh 0 0 led) }).objs.size := fun b hb => by
        rw [Heap.size_push]
        exact Nat.ne_of_lt (Nat.lt_succ_of_lt hb)
      refine ⟨fun i v hv => ?_, nb l lS, ?_, nb, by simp [hh], fun s' h4 k4 hm g => ?_⟩
      · obtain ⟨t, e⟩ := SS.strs_at hi i v (by rw [Array.getElem?_toList]; exact hv)
        have il : i < xs.length := by
          rw [hsz]
          exact (Array.getElem?_eq_some_iff.mp hv).1
        refine ⟨xs[i], t, List.getElem?_eq_getElem il, ?_⟩
        rw [e, List.getD_eq_getElem?_getD, List.getElem?_eq_getElem il] <;> rfl
      · rw [Heap.size_push]
        simp only [List.mem_cons, List.not_mem_nil, or_false, not_or]
        exact ⟨Nat.ne_of_lt (Nat.lt_succ_self _), Nat.ne_of_gt lS⟩
      · obtain ⟨h', g', d', tk', os'⟩ := s'
        obtain rfl : g' = s.gens := hm.gens
        obtain rfl : d' = s.drawn := hm.drawn
        obtain rfl : os' = s.os := hm.os
        refine ⟨h', tk', rfl, by rw [hsz]; exact g, fun b o hb e => hm.heap b o (fun z => ?_) (k4 b o e)⟩
        rcases List.mem_cons.mp z with z | z
        · exact Nat.ne_of_lt hb z
        · exact nb b hb (List.mem_singleton.mp z)
    obtain ⟨ocls, odict, odata, oslots⟩ := o
    simp only at hc hd
    subst hc hd
    rcases hT with rfl | rfl
    · have ho1 : (s.heap.push { cls := .type "set", dict := none, data := .set #[] 0 (.fresh 0 0 led) }).get? l = some { cls := .type "list", dict := odict, data := .seq items nl, slots := oslots } := Heap.get?_push_of_some _ ho
      refine init_walk hS ho1 PySem.F.sub_list_set PySem.F.sub_list_frozenset (by decide) ?_
      have hl1 : (s.heap.push { cls := .type "set", dict := none, data := .set #[] 0 (.fresh 0 0 led) }).IsList l items := ⟨_, ho1, rfl, nl, rfl⟩
      refine wpAny_pyIter_list hl1 ?_
      refine wpAny_runValue ?_
      obtain ⟨val, nI, nS, nb, hh3, fin⟩ := rest
      refine update_strs ((Walks.list hh3 _ l nI items).toS) s.heap.objs.size nS xs hsz (by rw [← hsz]; exact room) val (items.size - 0) 0 _ (by omega) (Nat.zero_le _)
        ⟨⟨_, Heap.get?_push_size _ rfl, rfl, rfl⟩, hl1.push _⟩ ?_ fun s' hm g => ?_
      · refine ⟨0, by rw [List.take_zero]; exact unlike_nil, SetOf_congr ((PyProof.Rows.setObjOf_fresh (knd := PySem.strKind prog w) led).setOf (Heap.get?_push_of_some _ hS) (by unfold scanBound; omega)) (fun _ => ?_) rfl⟩
        simp
      · exact ⟨rfl, fin s' _ (fun b o e => Heap.get?_push_of_some _ (Heap.get?_push_of_some _ e)) hm g⟩
    · have ho1 : (s.heap.push { cls := .type "set", dict := none, data := .set #[] 0 (.fresh 0 0 led) }).get? l = some { cls := .type "tuple", dict := odict, data := .seq items nl, slots := oslots } := Heap.get?_push_of_some _ ho
      refine init_walk hS ho1 PySem.F.sub_tuple_set PySem.F.sub_tuple_frozenset (by decide) ?_
      have hl1 : (s.heap.push { cls := .type "set", dict := none, data := .set #[] 0 (.fresh 0 0 led) }).IsTuple l items := ⟨_, ho1, rfl, nl, rfl⟩
      refine wpAny_pyIter_tuple hl1 ?_
      refine wpAny_runValue ?_
      obtain ⟨val, nI, nS, nb, hh3, fin⟩ := rest
      refine update_strs ((Walks.tuple hh3 _ l nI items).toS) s.heap.objs.size nS xs hsz (by rw [← hsz]; exact room) val (items.size - 0) 0 _ (by omega) (Nat.zero_le _)
        ⟨⟨_, Heap.get?_push_size _ rfl, rfl, rfl⟩, hl1.push _⟩ ?_ fun s' hm g => ?_
      · refine ⟨0, by rw [List.take_zero]; exact unlike_nil, SetOf_congr ((PyProof.Rows.setObjOf_fresh (knd := PySem.strKind prog w) led).setOf (Heap.get?_push_of_some _ hS) (by unfold scanBound; omega)) (fun _ => ?_) rfl⟩
        simp
      · exact ⟨rfl, fin s' _ (fun b o e => Heap.get?_push_of_some _ (Heap.get?_push_of_some _ e)) hm g⟩
  · cases r₂ with
    | error e => exact hr₂
    | ok fl₂ =>
      cases fl₂ with
      | ret r =>
        obtain ⟨rfl, h', tk, rfl, g, hk'⟩ := hr₂
        repeat (any_goals (first | assumption | wp_step))
        exact h _ _ g hk'
      | _ => exact hr₂.elim
end
end Vf

set_option Elab.async false
set_option linter.all false
set_option maxRecDepth 100000
set_option maxHeartbeats 4000000
/-! rules: set(xs) of texts, its len; xs != [] -/
namespace Vf
open PySem PySem.Spec PyProof.Rows L2

/-- the set of these texts at a -/
def TxO (P : Program) (w : World) (a : Addr) (xs : List Str) : HO := .ext fun h => ∃ n, Unlike xs n ∧ h.SetOf (PySem.strKind P w) a (fun k => decide (k ∈ xs)) n
theorem txO_new {P : Program} {w : World} {H : Hp} {h : Heap} {a : Addr} {xs : List Str} (R : ∃ n, Unlike xs n ∧ h.SetOf (PySem.strKind P w) a (fun k => decide (k ∈ xs)) n) : ObjOk P w H h a (TxO P w a xs) := by
  have ⟨n, u, o, _, _, _, ho, _⟩ := R
  refine ⟨R, ⟨o, ho⟩, fun h1 h2 p k => ?_⟩
  have ⟨n', u', o', es, ep, t, ho', r'⟩ := p
  exact ⟨n', u', o', es, ep, t, k o' ho', r'⟩
section
variable {X : Cx}
theorem cr_setTx (hc : X.calm = true) : CallR X (.type "set") (fun vs H Q => ∃ (l : Addr) (xs : List Str), vs = [V.ref l] ∧ SeqE X.K H l (xs.map V.str) ∧ xs.length + 1 < scanBound ∧ ∀ p, H p = none → Q (.ref p) (upd H p (TxO X.prog X.w p xs))) := by
  intro pins s σ H vs us Q I r h
  obtain ⟨l, xs, rfl, hs, room, q⟩ := h
  rw [Vals.ref1 r]
  obtain ⟨its, T, o, n, rv, hT, ho, hc', hd, hz⟩ := seqE_at I hs
  have nD : H s.heap.objs.size = none := I.hok.fresh (Nat.le_refl _)
  refine set_of_strs (I.ok.hd hc) hT ho hc' hd (by rw [List.toList_toArray]; exact rv.strs) room fun h' tk g k => ?_
  obtain ⟨m, u, S⟩ := g
  rw [List.take_length] at u S
  exact ⟨.ref s.heap.objs.size, _, I.laid (t' := tk) (fun b o e => k b o (Heap.lt_size e) e) (Nat.le_refl _) (txO_new ⟨m, u, S⟩), rfl, q _ nD⟩
theorem cr_lenTx : CallR X (.builtin "len") (fun vs H Q => ∃ (a : Addr) (xs : List Str), vs = [V.ref a] ∧ H a = some (TxO X.prog X.w a xs) ∧ xs.length + 1 < scanBound ∧ ∀ n : Nat, Unlike xs n → Q (.int n) H) := by
  intro pins s σ H vs us Q I r h
  obtain ⟨a, xs, rfl, ha, room, q⟩ := h
  rw [Vals.ref1 r]
  obtain ⟨n, u, o, es, ep, t, ho, hex, hd, _, _, _, hf, hn⟩ : ∃ n, Unlike xs n ∧ s.heap.SetOf (PySem.strKind X.prog X.w) a (fun k => decide (k ∈ xs)) n := (I.hok a _ ha).1
  have := u.1
  have hb : scanBound = 4096 := rfl
  exact call_len_set ho hex hd hf (by rw [hn]; omega) ⟨.int n, H, I.tok _, ⟨_, by rw [hn]⟩, q n u⟩
/-- xs != [], xs == []: whatever is in xs -/
def rNil (K : PySem.W.Frag) (neg : Bool) : R2 := fun x y H Q => ∃ a b xs, x = .ref a ∧ y = .ref b ∧ SqL K H a xs ∧ SqL K H b [] ∧ Q (.bl (if neg then !xs.isEmpty else xs.isEmpty)) H
theorem op_neNil (hu : X.A.units < cLine) : OpR X (compareOp .NotEq) (rNil X.K true) := by
  intro pins s σ H x y v u Q I rx ry h
  obtain ⟨a, b, xs, rfl, rfl, ha, hb, q⟩ := h
  cases rx
  cases ry
  obtain ⟨its, r, pl, hz⟩ := I.list ha
  obtain ⟨its2, r2, pl2, hz2⟩ := I.list hb
  cases r2
  have hl := r.length
  cases xs with
  | nil =>
    cases r
    exact SeqAt.RcNeAt.lists (e := fun _ => true) pl.isList pl2.isList rfl hu (fun j h1 h2 => absurd h1 (Nat.not_lt_zero _)) X.prog X.w X.xe _ ⟨.bl false, H, I, rfl, q⟩
  | cons x xs =>
    refine SeqAt.RcNeAt.lists_lengths pl.isList pl2.isList ?_ hu X.prog X.w X.xe _ ⟨.bl true, H, I, rfl, q⟩
    rw [List.size_toArray, ← hl]
    rfl
theorem op_eqNil (hu : X.A.units < cLine) : OpR X (compareOp .Eq) (rNil X.K false) := by
  intro pins s σ H x y v u Q I rx ry h
  obtain ⟨a, b, xs, rfl, rfl, ha, hb, q⟩ := h
  cases rx
  cases ry
  obtain ⟨its, r, pl, hz⟩ := I.list ha
  obtain ⟨its2, r2, pl2, hz2⟩ := I.list hb
  cases r2
  have hl := r.length
  cases xs with
  | nil =>
    cases r
    exact SeqAt.RcAt.lists (e := fun _ => true) pl.isList pl2.isList rfl hu (fun j h1 h2 => absurd h1 (Nat.not_lt_zero _)) X.prog X.w X.xe _ ⟨.bl true, H, I, rfl, q⟩
  | cons x xs =>
    refine SeqAt.RcAt.lists_lengths pl.isList pl2.isList ?_ hu X.prog X.w X.xe _ ⟨.bl false, H, I, rfl, q⟩
    rw [List.size_toArray, ← hl]
    rfl
end
end Vf

set_option Elab.async false
set_option linter.all false
set_option maxRecDepth 100000
set_option maxHeartbeats 1000000
/-! the data layer: in, parts, built-ins -/
namespace Vf
open PySem PySem.Spec PyProof.Rows L2
section
variable {X : Cx} {K : PySem.W.Frag}
/-- in -/
theorem inB_seq {G H : Hp} {x d : D} {l : List D} {b : Bool} {v w : V} (hd : d = .lst l ∨ d = .tup l) (e : inB x d = some b) (rx : Rp K G v x) (rd : Rp K G w d) (sg : Same G H) :
    (∃ p xs, w = .ref p ∧ (SqL K H p xs ∨ SqT K H p xs) ∧ flatV v = true ∧ xs.all flatV = true ∧ inV v xs = b) ∨
    (∃ p q, Dp K H v p ∧ Dp K H w (if d matches .lst _ then .list q else .tuple q) ∧ SeqAt.shaped p = true ∧ SeqAt.shaped (if d matches .lst _ then .list q else .tuple q) = true ∧ (q.any fun z => PyData.eqv z p) = b) := by
  have any_py : ∀ {ds : List D} {ps : List PyData} {p : PyData}, toPyAll ds = some ps → toPy x = some p → (ps.any fun z => PyData.eqv z p) = ds.any fun y => dEq y x := by
    intro ds
    induction ds with
    | nil => intro ps p e1 e2; cases e1; rfl
    | cons d ds ih =>
      intro ps p e1 e2
      unfold toPyAll at e1
      cases z1 : toPy d with
      | none => rw [z1] at e1; cases e1
      | some q1 =>
        cases z2 : toPyAll ds with
        | none => rw [z1, z2] at e1; cases e1
        | some qs =>
          rw [z1, z2] at e1
          cases e1
          rw [List.any_cons, List.any_cons, ih z2 e2, dEq_py z1 e2]
  rcases hd with rfl | rfl
  · simp only [inB] at e
    split at e
    · rename_i c
      cases e
      rw [Bool.or_eq_true, Bool.and_eq_true, Bool.and_eq_true] at c
      rcases c with ⟨f1, f2⟩ | ⟨s1, s2⟩
      · obtain ⟨p, xs, rfl, q, r⟩ := rd
        cases rp_flat f1 rx
        obtain ⟨h1, h2⟩ := any_flat f1 r f2
        exact .inl ⟨p, xs, rfl, .inl (SqL.of (sg _ _ q)), by cases x <;> first | (exact (Bool.false_ne_true f1).elim) | rfl, h1, h2⟩
      · obtain ⟨p, e1, d1, h1⟩ := shD_dp sg s1 rx
        obtain ⟨p2, e2, d2, h2⟩ := shD_dp sg s2 rd
        unfold toPy at e2
        cases z : toPyAll l with
        | none => rw [z] at e2; cases e2
        | some ps =>
          rw [z] at e2
          cases e2
          exact .inr ⟨p, ps, d1, d2, h1, h2, any_py z e1⟩
    · cases e
  · simp only [inB] at e
    split at e
    · rename_i c
      cases e
      rw [Bool.or_eq_true, Bool.and_eq_true, Bool.and_eq_true] at c
      rcases c with ⟨f1, f2⟩ | ⟨s1, s2⟩
      · obtain ⟨p, xs, rfl, q, r⟩ := rd
        cases rp_flat f1 rx
        obtain ⟨h1, h2⟩ := any_flat f1 r f2
        exact .inl ⟨p, xs, rfl, .inr (same_sqT sg q), by cases x <;> first | (exact (Bool.false_ne_true f1).elim) | rfl, h1, h2⟩
      · obtain ⟨p, e1, d1, h1⟩ := shD_dp sg s1 rx
        obtain ⟨p2, e2, d2, h2⟩ := shD_dp sg s2 rd
        unfold toPy at e2
        cases z : toPyAll l with
        | none => rw [z] at e2; cases e2
        | some ps =>
          rw [z] at e2
          cases e2
          exact .inr ⟨p, ps, d1, d2, h1, h2, any_py z e1⟩
    · cases e
theorem str_one {w : Str} {c : Nat} (h : w.cps.toList = [c]) : w = ⟨#[c]⟩ := by
  cases w with
  | mk a =>
    cases a with
    | mk l =>
      cases (show l = [c] from h)
      rfl
theorem do_in (hK : X.K = K) (hu : X.A.units + 65 < cLine) : OpR X (compareOp .In) (RD2 K inG) := by
  intro pins s σ H x y v u Q I rx ry ⟨G, d, e, P, sg, rd, re, ⟨b, eb, q⟩, kk⟩
  subst hK
  have go : ∀ l, (e = .lst l ∨ e = .tup l) → wpAny (model X.prog X.w) X.A (compareOp .In v u) (EP X pins σ Q) X.xe s := by
    intro l hl
    rcases inB_seq hl eb rd re sg with ⟨p, xs, rfl, hq, f1, f2, rfl⟩ | ⟨p, qs, d1, d2, h1, h2, rfl⟩
    · exact op_in_seq pins s σ H _ _ v u Q I rx ry ⟨p, xs, rfl, hq, f1, f2, kk _ _ _ _ q (Ext.refl sg) rfl⟩
    · obtain ⟨as, r1⟩ := Dp.reads I _ _ v d1 rx
      obtain ⟨bs, r2⟩ := Dp.reads I _ _ u d2 ry
      rcases hl with rfl | rfl
      · exact SeqAt.in_list_reads r2 r1 (SeqAt.canLay_of_shaped h2) (SeqAt.canLay_of_shaped h1) (room_in_shaped h1 hu) ⟨.bl _, H, I, rfl, kk _ _ _ _ q (Ext.refl sg) rfl⟩
      · exact SeqAt.in_tuple_reads r2 r1 (SeqAt.canLay_of_shaped h2) (SeqAt.canLay_of_shaped h1) (room_in_shaped h1 hu) ⟨.bl _, H, I, rfl, kk _ _ _ _ q (Ext.refl sg) rfl⟩
  cases e with
  | lst l => exact go l (.inl rfl)
  | tup l => exact go l (.inr rfl)
  | str z =>
    simp only [inB] at eb
    split at eb
    · rename_i w
      split at eb
      · rename_i c hc
        cases eb
        cases str_one hc
        cases (show x = _ from rd)
        cases (show y = _ from re)
        exact op_in_sign pins s σ H _ _ v u Q I rx ry ⟨c, z, rfl, rfl, kk _ _ _ _ q (Ext.refl sg) rfl⟩
      · cases eb
    · cases eb
  | _ => cases eb
theorem do_nin (hK : X.K = K) (hu : X.A.units + 65 < cLine) : OpR X (compareOp .NotIn) (RD2 K ninG) := by
  intro pins s σ H x y v u Q I rx ry ⟨G, d, e, P, sg, rd, re, ⟨b, eb, q⟩, kk⟩
  subst hK
  have go : ∀ l, (e = .lst l ∨ e = .tup l) → wpAny (model X.prog X.w) X.A (compareOp .NotIn v u) (EP X pins σ Q) X.xe s := by
    intro l hl
    rcases inB_seq hl eb rd re sg with ⟨p, xs, rfl, hq, f1, f2, rfl⟩ | ⟨p, qs, d1, d2, h1, h2, rfl⟩
    · exact op_notIn_seq pins s σ H _ _ v u Q I rx ry ⟨p, xs, rfl, hq, f1, f2, kk _ _ _ _ q (Ext.refl sg) rfl⟩
    · obtain ⟨as, r1⟩ := Dp.reads I _ _ v d1 rx
      obtain ⟨bs, r2⟩ := Dp.reads I _ _ u d2 ry
      rcases hl with rfl | rfl
      · exact SeqAt.notIn_list_reads r2 r1 (SeqAt.canLay_of_shaped h2) (SeqAt.canLay_of_shaped h1) (room_in_shaped h1 hu) ⟨.bl _, H, I, rfl, kk _ _ _ _ q (Ext.refl sg) rfl⟩
      · exact SeqAt.notIn_tuple_reads r2 r1 (SeqAt.canLay_of_shaped h2) (SeqAt.canLay_of_shaped h1) (room_in_shaped h1 hu) ⟨.bl _, H, I, rfl, kk _ _ _ _ q (Ext.refl sg) rfl⟩
  cases e with
  | lst l => exact go l (.inl rfl)
  | tup l => exact go l (.inr rfl)
  | str z =>
    simp only [inB] at eb
    split at eb
    · rename_i w
      split at eb
      · rename_i c hc
        cases eb
        cases str_one hc
        cases (show x = _ from rd)
        cases (show y = _ from re)
        exact op_notIn_sign pins s σ H _ _ v u Q I rx ry ⟨c, z, rfl, rfl, kk _ _ _ _ q (Ext.refl sg) rfl⟩
      · cases eb
    · cases eb
  | _ => cases eb
end
end Vf

set_option Elab.async false
set_option linter.all false
set_option maxRecDepth 100000
set_option maxHeartbeats 1000000
/-! the data layer: in, parts, built-ins -/
namespace Vf
open PySem PySem.Spec PyProof.Rows L2
section
variable {X : Cx} {K : PySem.W.Frag}
/-- d[i] of a list, a tuple, a text -/
def ixG : G2 := fun d e P => match d, e with
  | .lst l, .int i => ∃ x, atI l i = some x ∧ P x
  | .tup l, .int i => ∃ x, atI l i = some x ∧ P x
  | .str z, .int i => z.length ≤ sizeLine ∧ ∃ c, atI z.cps.toList i = some c ∧ P (.str ⟨#[c]⟩)
  | _, _ => False
theorem at_rp {G : Hp} {xs : List V} {l : List D} {i : Int} {x : D} (r : RpAll K G xs l) (e : atI l i = some x) : ∃ v, atI xs i = some v ∧ Rp K G v x := by
  unfold atI at e ⊢
  rw [← r.len] at e
  cases z : ixN xs.length i with
  | none => rw [z] at e; cases e
  | some j =>
    rw [z] at e
    exact r.at e
theorem do_ix (hK : X.K = K) : IxR X (RD2 K ixG) := by
  intro va sl pins s σ H x y v u Q I rx ry ⟨G, d, e, P, sg, rd, re, q, kk⟩ hs
  subst hK
  cases d <;> cases e <;> first | exact q.elim | skip
  · rename_i z i
    cases (show x = _ from rd)
    cases (show y = _ from re)
    obtain ⟨hz, c, ec, q⟩ := q
    exact ix_str va sl pins s σ H _ _ v u Q I rx ry ⟨z, i, c, rfl, rfl, hz, ec, kk _ _ _ _ q (Ext.refl sg) rfl⟩ hs
  · rename_i l i
    obtain ⟨a, xs, rfl, h1, r⟩ := rd
    cases (show y = _ from re)
    obtain ⟨w, ew, q⟩ := q
    obtain ⟨vv, ev, rv⟩ := at_rp r ew
    exact ix_list va sl pins s σ H _ _ v u Q I rx ry ⟨a, xs, i, vv, rfl, rfl, SqL.of (sg _ _ h1), ev, kk _ _ _ _ q (Ext.refl sg) rv⟩ hs
  · rename_i l i
    obtain ⟨a, xs, rfl, h1, r⟩ := rd
    cases (show y = _ from re)
    obtain ⟨w, ew, q⟩ := q
    obtain ⟨vv, ev, rv⟩ := at_rp r ew
    exact ix_tup va sl pins s σ H _ _ v u Q I rx ry ⟨a, xs, i, vv, rfl, rfl, same_sqT sg h1, ev, kk _ _ _ _ q (Ext.refl sg) rv⟩ hs

end
end Vf

set_option Elab.async false
set_option linter.all false
set_option maxRecDepth 100000
set_option maxHeartbeats 1000000
/-! the data layer: in, parts, built-ins -/
namespace Vf
open PySem PySem.Spec PyProof.Rows L2
section
variable {X : Cx} {K : PySem.W.Frag}
abbrev G1 := D → (D → Prop) → Prop
def one (g : G1) : Gn := fun ds P => match ds with
  | [d] => g d P
  | _ => False
def two (g : G2) : Gn := fun ds P => match ds with
  | [d, e] => g d e P
  | _ => False
theorem rpAll1 {G : Hp} {vs : List V} {d : D} (h : RpAll K G vs [d]) : ∃ v, vs = [v] ∧ Rp K G v d := by
  obtain ⟨x, r, rfl, q, t⟩ := h
  cases (show r = [] from t)
  exact ⟨x, rfl, q⟩
theorem rpAll2 {G : Hp} {vs : List V} {d e : D} (h : RpAll K G vs [d, e]) : ∃ v w, vs = [v, w] ∧ Rp K G v d ∧ Rp K G w e := by
  obtain ⟨x, r, rfl, q, t⟩ := h
  obtain ⟨w, rfl, q2⟩ := rpAll1 t
  exact ⟨x, w, rfl, q, q2⟩
theorem rdn_one {g : G1} {vs : List V} {H : Hp} {Q : VK} (h : RDn K (one g) vs H Q) : ∃ v, vs = [v] ∧ RD1 K g v H Q := by
  obtain ⟨G, ds, P, sg, r, q, kk⟩ := h
  rcases ds with _ | ⟨d, _ | ⟨e, ds⟩⟩
  · exact q.elim
  · obtain ⟨v, rfl, rd⟩ := rpAll1 r
    exact ⟨v, rfl, G, d, P, sg, rd, q, kk⟩
  · exact q.elim
theorem rdn_two {g : G2} {vs : List V} {H : Hp} {Q : VK} (h : RDn K (two g) vs H Q) : ∃ v w, vs = [v, w] ∧ RD2 K g v w H Q := by
  obtain ⟨G, ds, P, sg, r, q, kk⟩ := h
  rcases ds with _ | ⟨d, _ | ⟨e, _ | ⟨f, ds⟩⟩⟩
  · exact q.elim
  · exact q.elim
  · obtain ⟨v, w, rfl, rd, re⟩ := rpAll2 r
    exact ⟨v, w, rfl, G, d, e, P, sg, rd, re, q, kk⟩
  · exact q.elim
/-- a call of one thing, by its value -/
theorem call_one {f : Value} {g : G1} (h : ∀ (pins : List (Addr × Obj)) (s : Shared) (σ : L2.St) (H : Hp) (v : V) (us : List Value) (Q : VK), Inv X pins σ H s → Vals [v] us → RD1 K g v H Q → wpAny (model X.prog X.w) X.A (call f us) (EP X pins σ Q) X.xe s) : CallR X f (RDn K (one g)) := by
  intro pins s σ H vs us Q I rv q
  obtain ⟨v, rfl, q1⟩ := rdn_one q
  exact h pins s σ H v us Q I rv q1
theorem call_two {f : Value} {g : G2} (h : ∀ (pins : List (Addr × Obj)) (s : Shared) (σ : L2.St) (H : Hp) (v w : V) (us : List Value) (Q : VK), Inv X pins σ H s → Vals [v, w] us → RD2 K g v w H Q → wpAny (model X.prog X.w) X.A (call f us) (EP X pins σ Q) X.xe s) : CallR X f (RDn K (two g)) := by
  intro pins s σ H vs us Q I rv q
  obtain ⟨v, w, rfl, q1⟩ := rdn_two q
  exact h pins s σ H v w us Q I rv q1
/-! ### built-ins -/
def lenB : D → Option Nat
  | .lst l => some l.length
  | .tup l => some l.length
  | .scr ns => some ns.length
  | .str z => if z.length ≤ sizeLine then some z.length else none
  | .dcK ks _ => some ks.length
  | _ => none
def lenG : Gn := one fun d P => ∃ n, lenB d = some n ∧ P (.int n)
theorem do_len (hK : X.K = K) : CallR X (.builtin "len") (RDn K lenG) := by
  refine call_one fun pins s σ H v us Q I rv ⟨G, d, P, sg, rd, ⟨n, en, q⟩, kk⟩ => ?_
  subst hK
  have kq := kk _ (.int n) H G q (Ext.refl sg) rfl
  cases d with
  | lst l =>
    obtain ⟨a, xs, rfl, h1, r⟩ := rd
    cases en
    exact call_len_seq pins s σ H _ us Q I rv ⟨a, xs, rfl, .inl (SqL.of (sg _ _ h1)), by rw [r.len]; exact kq⟩
  | tup l =>
    obtain ⟨a, xs, rfl, h1, r⟩ := rd
    cases en
    exact call_len_seq pins s σ H _ us Q I rv ⟨a, xs, rfl, .inr (same_sqT sg h1), by rw [r.len]; exact kq⟩
  | scr ns =>
    obtain ⟨a, rfl, h1⟩ := rd
    cases en
    exact call_len_seq pins s σ H _ us Q I rv ⟨a, _, rfl, .inl (sg.seq h1), by rw [List.length_map]; exact kq⟩
  | str z =>
    cases (show v = _ from rd)
    simp only [lenB] at en
    split at en
    · cases en
      exact call_len_str pins s σ H _ us Q I rv ⟨z, rfl, by assumption, kq⟩
    · cases en
  | dcK ks ds =>
    obtain ⟨a, kvs, rfl, h1, n1, r⟩ := rd
    cases en
    exact call_lenD pins s σ H _ us Q I rv ⟨a, kvs, rfl, sg _ _ h1, by rw [← List.length_map (f := (·.1)), n1]; exact kq⟩
  | _ => cases en
/-- all, any of a list of bools -/
def bls : List D → Option (List Bool)
  | [] => some []
  | .bl b :: ds => (bls ds).map (b :: ·)
  | _ :: _ => none
theorem bls_rp {G : Hp} : ∀ {ds : List D} {bs : List Bool} {xs : List V}, bls ds = some bs → RpAll K G xs ds → xs = bs.map V.bl
  | [], _, _, e, h => by cases e; exact h
  | .bl b :: ds, bs, _, e, h => by
    obtain ⟨x, r, rfl, q, t⟩ := h
    cases (show x = _ from q)
    unfold bls at e
    cases z : bls ds with
    | none => rw [z] at e; cases e
    | some cs => rw [z] at e; cases e; rw [List.map_cons, bls_rp z t]
theorem bls_map (bs : List Bool) : bls (bs.map D.bl) = some bs := by
  induction bs with
  | nil => rfl
  | cons b bs ih => rw [List.map_cons]; unfold bls; rw [ih]; rfl
def allG : Gn := one fun d P => ∃ l bs, d = .lst l ∧ bls l = some bs ∧ P (.bl (bs.all id))
def anyG : Gn := one fun d P => ∃ l bs, d = .lst l ∧ bls l = some bs ∧ P (.bl (bs.any id))
theorem do_all (hK : X.K = K) (hc : X.calm = true) : CallR X (.builtin "all") (RDn K allG) := by
  refine call_one fun pins s σ H v us Q I rv ⟨G, d, P, sg, rd, ⟨l, bs, ed, eb, q⟩, kk⟩ => ?_
  subst hK ed
  obtain ⟨a, xs, rfl, h1, r⟩ := rd
  cases bls_rp eb r
  exact cr_all hc pins s σ H _ us Q I rv ⟨a, bs, rfl, SqL.of (sg _ _ h1), kk _ _ _ _ q (Ext.refl sg) rfl⟩
theorem do_any (hK : X.K = K) (hc : X.calm = true) : CallR X (.builtin "any") (RDn K anyG) := by
  refine call_one fun pins s σ H v us Q I rv ⟨G, d, P, sg, rd, ⟨l, bs, ed, eb, q⟩, kk⟩ => ?_
  subst hK ed
  obtain ⟨a, xs, rfl, h1, r⟩ := rd
  cases bls_rp eb r
  exact cr_any hc pins s σ H _ us Q I rv ⟨a, bs, rfl, SqL.of (sg _ _ h1), kk _ _ _ _ q (Ext.refl sg) rfl⟩
/-- tuple(..), list(..) -/
def seqB : D → Option (List D)
  | .lst l => some l
  | .tup l => some l
  | _ => none
def tupleG : Gn := one fun d P => ∃ l, seqB d = some l ∧ P (.tup l)
def listG : Gn := one fun d P => ∃ l, seqB d = some l ∧ P (.lst l)
theorem do_tuple (hK : X.K = K) : CallR X (.type "tuple") (RDn K tupleG) := by
  refine call_one fun pins s σ H v us Q I rv ⟨G, d, P, sg, rd, ⟨l, ed, q⟩, kk⟩ => ?_
  subst hK
  cases d with
  | lst l =>
    cases ed
    obtain ⟨a, xs, rfl, h1, r⟩ := rd
    refine call_tuple_of pins s σ H _ us Q I rv ⟨a, xs, rfl, .inl ⟨SqL.of (sg _ _ h1), fun p hp => ?_⟩⟩
    have e := Ext.new (o := .tup xs) sg hp
    exact kk _ _ _ _ q e ⟨p, xs, rfl, SqT.of upd_same, r.mono e.g⟩
  | tup l =>
    cases ed
    obtain ⟨a, xs, rfl, h1, r⟩ := rd
    exact call_tuple_of pins s σ H _ us Q I rv ⟨a, xs, rfl, .inr ⟨same_sqT sg h1, kk _ _ _ _ q (Ext.refl sg) ⟨a, xs, rfl, h1, r⟩⟩⟩
  | _ => cases ed
theorem do_list (hK : X.K = K) : CallR X (.type "list") (RDn K listG) := by
  refine call_one fun pins s σ H v us Q I rv ⟨G, d, P, sg, rd, ⟨l, ed, q⟩, kk⟩ => ?_
  subst hK
  cases d with
  | lst l =>
    cases ed
    obtain ⟨a, xs, rfl, h1, r⟩ := rd
    refine call_list_of pins s σ H _ us Q I rv ⟨a, xs, rfl, .inl (SqL.of (sg _ _ h1)), fun p hp => ?_⟩
    have e := Ext.new (o := .lst xs) sg hp
    exact kk _ _ _ _ q e ⟨p, xs, rfl, upd_same, r.mono e.g⟩
  | tup l =>
    cases ed
    obtain ⟨a, xs, rfl, h1, r⟩ := rd
    refine call_list_of pins s σ H _ us Q I rv ⟨a, xs, rfl, .inr (same_sqT sg h1), fun p hp => ?_⟩
    have e := Ext.new (o := .lst xs) sg hp
    exact kk _ _ _ _ q e ⟨p, xs, rfl, upd_same, r.mono e.g⟩
  | _ => cases ed
/-- numbers and texts -/
def int1G : Gn := one fun d P => ∃ i, d = .int i ∧ P (.int i)
def absG : Gn := one fun d P => ∃ i, d = .int i ∧ P (.int (if i < 0 then -i else i))
def str1G : Gn := one fun d P => ∃ i, d = .int i ∧ i.natAbs.log2 < 1920 ∧ P (.str (toString i))
def max2G : Gn := two fun d e P => ∃ i j, d = .int i ∧ e = .int j ∧ P (.int (if j > i then j else i))
def min2G : Gn := two fun d e P => ∃ i j, d = .int i ∧ e = .int j ∧ P (.int (if j < i then j else i))
theorem do_int1 : CallR X (.type "int") (RDn K int1G) := by
  refine call_one fun pins s σ H v us Q I rv ⟨G, d, P, sg, rd, ⟨i, ed, q⟩, kk⟩ => ?_
  subst ed
  cases (show v = _ from rd)
  exact call_int1 pins s σ H _ us Q I rv (.inl ⟨i, rfl, kk _ _ _ _ q (Ext.refl sg) rfl⟩)
theorem do_abs : CallR X (.builtin "abs") (RDn K absG) := by
  refine call_one fun pins s σ H v us Q I rv ⟨G, d, P, sg, rd, ⟨i, ed, q⟩, kk⟩ => ?_
  subst ed
  cases (show v = _ from rd)
  exact call_abs pins s σ H _ us Q I rv ⟨i, rfl, kk _ _ _ _ q (Ext.refl sg) rfl⟩
theorem do_str1 : CallR X (.type "str") (RDn K str1G) := by
  refine call_one fun pins s σ H v us Q I rv ⟨G, d, P, sg, rd, ⟨i, ed, hz, q⟩, kk⟩ => ?_
  subst ed
  cases (show v = _ from rd)
  exact call_str_int pins s σ H _ us Q I rv ⟨i, rfl, hz, kk _ _ _ _ q (Ext.refl sg) rfl⟩
theorem do_max2 (hc : X.calm = true) : CallR X (.builtin "max") (RDn K max2G) := by
  refine call_two fun pins s σ H v w us Q I rv ⟨G, d, e, P, sg, rd, re, ⟨i, j, ed, ee, q⟩, kk⟩ => ?_
  subst ed ee
  cases (show v = _ from rd)
  cases (show w = _ from re)
  exact call_max2 hc pins s σ H _ us Q I rv ⟨i, j, rfl, kk _ _ _ _ q (Ext.refl sg) rfl⟩
theorem do_min2 (hc : X.calm = true) : CallR X (.builtin "min") (RDn K min2G) := by
  refine call_two fun pins s σ H v w us Q I rv ⟨G, d, e, P, sg, rd, re, ⟨i, j, ed, ee, q⟩, kk⟩ => ?_
  subst ed ee
  cases (show v = _ from rd)
  cases (show w = _ from re)
  exact call_min2 hc pins s σ H _ us Q I rv ⟨i, j, rfl, kk _ _ _ _ q (Ext.refl sg) rfl⟩
end
end Vf

set_option Elab.async false
set_option linter.all false
set_option maxRecDepth 100000
set_option maxHeartbeats 1000000
/-! the data layer: statements -/
namespace Vf
open PySem PySem.Spec PyProof.Rows L2

/-! ### a thing apart: a slot more behind the others -/
section
variable {K : PySem.W.Frag} {c : Ct} {σ : L2.St} {H G H' G' : Hp} {ρ : Ev}
theorem app_get {α : Type} {l : List α} {x y : α} {i : Nat} (h : (l ++ [x])[i]? = some y) : (i < l.length ∧ l[i]? = some y) ∨ (i = l.length ∧ y = x) := by
  by_cases hi : i < l.length
  · rw [List.getElem?_append_left hi] at h
    exact .inl ⟨hi, h⟩
  · have h2 := lt_of_at h
    rw [List.length_append] at h2
    have e : i = l.length := by simp at h2; omega
    subst e
    rw [List.getElem?_append_right (Nat.le_refl _), Nat.sub_self] at h
    exact .inr ⟨rfl, by simpa using h.symm⟩
/-- a new list that nobody owns yet -/
theorem Rep.push (r : Rep K c σ H G ρ) {p : Addr} {xs : List V} {l : List D} (n : H p = none) (ra : RpAll K G xs l) : Rep K c (σ ++ [some (.ref p)]) (upd H p (.lst xs)) G (ρ ++ [.own l]) := by
  have r0 := r.lay (o := .lst xs) n
  obtain ⟨fp, s1, s2, s3⟩ := r0.sl
  have ap : ∀ j, j < ρ.length → p ∉ fp j := fun j hj hm => by
    obtain ⟨fp', t1, _⟩ := r.sl
    have q := s1 j _ (List.getElem?_eq_getElem hj)
    have q' := t1 j _ (List.getElem?_eq_getElem hj)
    generalize ρ[j] = t at q q'
    cases t with
    | no =>
      rw [show fp j = [] from q] at hm
      cases hm
    | val d =>
      rw [q.1] at hm
      cases hm
    | own l =>
      obtain ⟨x, xs, e, eo, _⟩ := q
      obtain ⟨y, ys, e', eo', eh, _⟩ := q'
      rw [eo] at eo'
      rw [e, List.mem_singleton] at hm
      rw [← V.ref.inj (Option.some.inj eo'), ← hm, n] at eh
      cases eh
    | ownK ks ds =>
      obtain ⟨x, xs, e, eo, _⟩ := q
      obtain ⟨y, ys, e', eo', eh, _⟩ := q'
      rw [eo] at eo'
      rw [e, List.mem_singleton] at hm
      rw [← V.ref.inj (Option.some.inj eo'), ← hm, n] at eh
      cases eh
    | ownT ks ds =>
      obtain ⟨x, xs, e, eo, _⟩ := q
      obtain ⟨y, ys, e', eo', eh, _⟩ := q'
      rw [eo] at eo'
      rw [e, List.mem_singleton] at hm
      rw [← V.ref.inj (Option.some.inj eo'), ← hm, n] at eh
      cases eh
    | ownI x dx C ns ds =>
      obtain ⟨us, e, eo, _⟩ := q
      obtain ⟨ys, e', eo', eh, _⟩ := q'
      rw [eo] at eo'
      rw [e, List.mem_singleton] at hm
      rw [← V.ref.inj (Option.some.inj eo'), ← hm, n] at eh
      cases eh
    | deal a b =>
      rw [q.1] at hm
      obtain ⟨_, _, bs, st, h1, h2, _⟩ := q'
      rcases List.mem_cons.mp hm with z | z
      · rw [← z, n] at h1
        cases h1
      · rw [← List.mem_singleton.mp z, n] at h2
        cases h2
  refine ⟨by rw [List.length_append, List.length_append, r.len]; rfl, r0.gh, r0.g0, r0.fr, r0.hk, r0.nw, r0.h0, fun j => if j = ρ.length then [p] else fp j, fun j s hj => ?_, fun j a hj ha => ?_, fun j k a hj hk ha hb => ?_⟩
  · dsimp only
    rcases app_get hj with ⟨hl, hj⟩ | ⟨rfl, rfl⟩
    · rw [if_neg (by omega), List.getElem?_append_left (by rw [← r.len]; exact hl)]
      exact s1 j s hj
    · rw [if_pos rfl, List.getElem?_append_right (by rw [r.len]; exact Nat.le_refl _), r.len, Nat.sub_self]
      exact ⟨p, xs, rfl, rfl, upd_same, ra⟩
  · dsimp only at ha
    by_cases e : j = ρ.length
    · rw [if_pos e] at ha
      rw [List.mem_singleton.mp ha]
      exact ⟨r.gh.free n, .inl (r.h0 p n)⟩
    · rw [if_neg e] at ha
      rw [List.length_append] at hj
      have hl : j < ρ.length := by simp at hj; omega
      obtain ⟨g, h⟩ := s2 j a hl ha
      refine ⟨g, h.imp id fun ⟨h1, x, y, h2⟩ => ⟨h1, x, y, ?_⟩⟩
      rw [List.getElem?_append_left hl]
      exact h2
  · dsimp only at ha hb
    rw [List.length_append] at hj hk
    simp only [List.length_singleton] at hj hk
    by_cases e1 : j = ρ.length
    · by_cases e2 : k = ρ.length
      · rw [e1, e2]
      · rw [if_pos e1] at ha
        rw [if_neg e2] at hb
        rw [List.mem_singleton.mp ha] at hb
        exact absurd hb (ap k (by omega))
    · by_cases e2 : k = ρ.length
      · rw [if_neg e1] at ha
        rw [if_pos e2] at hb
        rw [List.mem_singleton.mp hb] at ha
        exact absurd ha (ap j (by omega))
      · rw [if_neg e1] at ha
        rw [if_neg e2] at hb
        exact s3 j k a (by omega) (by omega) ha hb
/-- the slots alone, with the thing apart among what must stay -/
theorem Rep.aside {p : Addr} {l : List D} (r : Rep K c (σ ++ [some (.ref p)]) H G (ρ ++ [.own l])) (hl : ρ.length = σ.length) : ∃ c' xs, Rep K c' σ H G ρ ∧ H p = some (.lst xs) ∧ RpAll K G xs l ∧ G p = none ∧
    (∀ σ' ρ' H' G', σ'.length = σ.length → Rep K c' σ' H' G' ρ' → Same G G' → Rep K c (σ' ++ [some (.ref p)]) H' G' (ρ' ++ [.own l])) := by
  obtain ⟨fp, s1, s2, s3⟩ := r.sl
  have hlast : (ρ ++ [Sl.own l])[ρ.length]? = some (.own l) := by rw [List.getElem?_append_right (Nat.le_refl _), Nat.sub_self]; rfl
  obtain ⟨a, xs, ef, e, eh, ra⟩ := s1 _ _ hlast
  have ep : p = a := by
    rw [List.getElem?_append_right (by rw [hl]; exact Nat.le_refl _), hl, Nat.sub_self] at e
    exact V.ref.inj (Option.some.inj e)
  subst ep
  have hin : ρ.length < (ρ ++ [Sl.own l]).length := by rw [List.length_append]; exact Nat.lt_succ_self _
  have hp : p ∈ fp ρ.length := by rw [ef]; simp
  obtain ⟨gp, hp0⟩ := s2 _ p hin hp
  have h0 : c.H0 p = none := by
    rcases hp0 with z | ⟨_, x, y, z⟩
    · exact z
    · rw [hlast] at z
      cases z
  have nh : ¬ c.hid p ∨ c.hid p := (Classical.em _).symm
  refine ⟨⟨fun b => if b = p then some (.lst xs) else c.H0 b, c.G0, fun b => c.hid b ∧ b ≠ p⟩, xs, ?_, eh, ra, gp, fun σ' ρ' H' G' hl' r' sg => ?_⟩
  · refine ⟨hl, r.gh, r.g0, fun b o nb hb => ?_, fun b hb => r.hk b hb.1, fun b hb => ?_, fun b hb => ?_, fp, fun j s hj => ?_, fun j b hj hb => ?_, fun j k b hj hk => s3 j k b (by rw [List.length_append]; omega) (by rw [List.length_append]; omega)⟩
    · dsimp only at hb nb
      by_cases z : b = p
      · rw [if_pos z] at hb
        cases hb
        rw [z]
        exact eh
      · rw [if_neg z] at hb
        exact r.fr b o (fun y => nb ⟨y, z⟩) hb
    · dsimp only
      have z : b ≠ p := fun z => hb (by rw [z]; exact gp)
      rw [if_neg z]
      exact r.nw b hb
    · dsimp only
      have z : b ≠ p := fun z => by rw [z, eh] at hb; cases hb
      rw [if_neg z]
      exact r.h0 b hb
    · have hj' := lt_of_at hj
      have q := s1 j s (by rw [List.getElem?_append_left hj']; exact hj)
      rw [List.getElem?_append_left (by rw [← hl]; exact hj')] at q
      exact q
    · have hj2 : j < (ρ ++ [Sl.own l]).length := by rw [List.length_append]; omega
      obtain ⟨g, h⟩ := s2 j b hj2 hb
      have z : b ≠ p := fun z => by
        have := s3 j ρ.length b hj2 hin hb (by rw [z]; exact hp)
        omega
      refine ⟨g, ?_⟩
      dsimp only
      rw [if_neg z]
      refine h.imp id fun ⟨h1, x, y, h2⟩ => ⟨⟨h1, z⟩, x, y, ?_⟩
      rw [List.getElem?_append_left hj] at h2
      exact h2
  · obtain ⟨fp', t1, t2, t3⟩ := r'.sl
    have hp' : H' p = some (.lst xs) := r'.fr p _ (fun z => z.2 rfl) (by dsimp only; rw [if_pos rfl])
    have gp' : G' p = none := by
      cases q : G' p with
      | none => rfl
      | some o =>
        rcases r'.nw p (by rw [q]; exact fun z => nomatch z) with z | z
        · cases q0 : c.G0 p with
          | none => exact absurd q0 z
          | some o' =>
            have := r.g0 _ _ q0
            rw [gp] at this
            cases this
        · dsimp only at z
          rw [if_pos rfl] at z
          cases z
    have z0 : ∀ b, (if b = p then some (.lst xs) else c.H0 b) = none → c.H0 b = none := fun b hb => by
      by_cases z : b = p
      · rw [if_pos z] at hb
        cases hb
      · rw [if_neg z] at hb
        exact hb
    refine ⟨by rw [List.length_append, List.length_append, r'.len]; rfl, r'.gh, r'.g0, fun b o nb hb => ?_, fun b hb => ?_, fun b hb => (r'.nw b hb).imp id (z0 b), fun b hb => z0 b (r'.h0 b hb), fun j => if j = ρ'.length then [p] else fp' j, fun j s hj => ?_, fun j b hj hb => ?_, fun j k b hj hk hb hb' => ?_⟩
    · by_cases z : b = p
      · rw [z, h0] at hb
        cases hb
      · refine r'.fr b o (fun y => nb y.1) ?_
        dsimp only
        rw [if_neg z]
        exact hb
    · by_cases z : b = p
      · rw [z, hp']
        exact fun y => nomatch y
      · exact r'.hk b ⟨hb, z⟩
    · dsimp only
      rcases app_get hj with ⟨hlj, hj⟩ | ⟨rfl, rfl⟩
      · rw [if_neg (by omega), List.getElem?_append_left (by rw [← r'.len]; exact hlj)]
        exact t1 j s hj
      · rw [if_pos rfl, List.getElem?_append_right (by rw [r'.len]; exact Nat.le_refl _), r'.len, Nat.sub_self]
        exact ⟨p, xs, rfl, rfl, hp', ra.mono sg⟩
    · dsimp only at hb
      by_cases z : j = ρ'.length
      · rw [if_pos z] at hb
        rw [List.mem_singleton.mp hb]
        exact ⟨gp', .inl h0⟩
      · rw [if_neg z] at hb
        rw [List.length_append] at hj
        have hj2 : j < ρ'.length := by simp at hj; omega
        obtain ⟨g, h⟩ := t2 j b hj2 hb
        refine ⟨g, ?_⟩
        rcases h with h | ⟨⟨h1, _⟩, x, y, h2⟩
        · exact .inl (z0 b h)
        · exact .inr ⟨h1, x, y, by rw [List.getElem?_append_left hj2]; exact h2⟩
    · dsimp only at hb hb'
      rw [List.length_append] at hj hk
      simp only [List.length_singleton] at hj hk
      have apart : ∀ i, i < ρ'.length → p ∉ fp' i := fun i hi hm => by
        rcases (t2 i p hi hm).2 with z | z
        · dsimp only at z
          rw [if_pos rfl] at z
          cases z
        · exact z.1.2 rfl
      by_cases e1 : j = ρ'.length
      · by_cases e2 : k = ρ'.length
        · rw [e1, e2]
        · rw [if_pos e1] at hb
          rw [if_neg e2] at hb'
          rw [List.mem_singleton.mp hb] at hb'
          exact absurd hb' (apart k (by omega))
      · by_cases e2 : k = ρ'.length
        · rw [if_neg e1] at hb
          rw [if_pos e2] at hb'
          rw [List.mem_singleton.mp hb'] at hb
          exact absurd hb (apart j (by omega))
        · rw [if_neg e1] at hb
          rw [if_neg e2] at hb'
          exact t3 j k b (by omega) (by omega) hb hb'
/-- the thing apart goes to a slot -/
theorem Rep.take {p : Addr} {l : List D} {i : Nat} (r : Rep K c (σ ++ [some (.ref p)]) H G (ρ ++ [.own l])) (hl : ρ.length = σ.length) : Rep K c (σ.set i (some (.ref p))) H G (ρ.set i (.own l)) := by
  obtain ⟨fp, s1, s2, s3⟩ := r.sl
  have hlast : (ρ ++ [Sl.own l])[ρ.length]? = some (.own l) := by rw [List.getElem?_append_right (Nat.le_refl _), Nat.sub_self]; rfl
  have hin : ρ.length < (ρ ++ [Sl.own l]).length := by rw [List.length_append]; exact Nat.lt_succ_self _
  refine ⟨by rw [List.length_set, List.length_set]; exact hl, r.gh, r.g0, r.fr, r.hk, r.nw, r.h0, fun j => if j = i then fp ρ.length else fp j, fun j s hj => ?_, fun j b hj hb => ?_, fun j k b hj hk hb hb' => ?_⟩
  · dsimp only
    rcases get_set hj with ⟨rfl, hl', rfl⟩ | ⟨hn, hj⟩
    · rw [if_pos rfl, List.getElem?_set_self (by rw [← hl]; exact hl')]
      have q := s1 _ _ hlast
      rw [List.getElem?_append_right (by rw [hl]; exact Nat.le_refl _), hl, Nat.sub_self] at q
      rw [hl]
      exact q
    · rw [if_neg hn, List.getElem?_set_ne fun z => hn z.symm]
      have hj' := lt_of_at hj
      have q := s1 j s (by rw [List.getElem?_append_left hj']; exact hj)
      rw [List.getElem?_append_left (by rw [← hl]; exact hj')] at q
      exact q
  · rw [List.length_set] at hj
    dsimp only at hb
    by_cases hn : j = i
    · rw [if_pos hn] at hb
      obtain ⟨g, h⟩ := s2 _ b hin hb
      refine ⟨g, h.imp id fun ⟨h1, x, y, h2⟩ => ?_⟩
      rw [hlast] at h2
      cases h2
    · rw [if_neg hn] at hb
      obtain ⟨g, h⟩ := s2 j b (by rw [List.length_append]; omega) hb
      refine ⟨g, h.imp id fun ⟨h1, x, y, h2⟩ => ⟨h1, x, y, ?_⟩⟩
      rw [List.getElem?_set_ne fun z => hn z.symm]
      rw [List.getElem?_append_left hj] at h2
      exact h2
  · rw [List.length_set] at hj hk
    dsimp only at hb hb'
    by_cases h1 : j = i
    · by_cases h2 : k = i
      · rw [h1, h2]
      · rw [if_pos h1] at hb
        rw [if_neg h2] at hb'
        have := s3 ρ.length k b hin (by rw [List.length_append]; omega) hb hb'
        omega
    · by_cases h2 : k = i
      · rw [if_neg h1] at hb
        rw [if_pos h2] at hb'
        have := s3 j ρ.length b (by rw [List.length_append]; omega) hin hb hb'
        omega
      · rw [if_neg h1] at hb
        rw [if_neg h2] at hb'
        exact s3 j k b (by rw [List.length_append]; omega) (by rw [List.length_append]; omega) hb hb'
/-- the thing apart stays from now on -/
theorem Rep.keepIt {p : Addr} {l : List D} (r : Rep K c (σ ++ [some (.ref p)]) H G (ρ ++ [.own l])) (hl : ρ.length = σ.length) : ∃ G', Same G G' ∧ Rep K c σ H G' ρ ∧ Rp K G' (.ref p) (.lst l) := by
  have hlast : (ρ ++ [Sl.own l])[ρ.length]? = some (.own l) := by rw [List.getElem?_append_right (Nat.le_refl _), Nat.sub_self]; rfl
  obtain ⟨a, xs, eσ, eh, ra, ga, _, fz, sg⟩ := r.ownL hlast
  have ep : a = p := by
    rw [List.getElem?_append_right (by rw [hl]; exact Nat.le_refl _), hl, Nat.sub_self] at eσ
    exact (V.ref.inj (Option.some.inj (Option.some.inj eσ))).symm
  subst ep
  obtain ⟨fp, s1, s2, s3⟩ := fz.sl
  refine ⟨_, sg, ⟨hl, fz.gh, fz.g0, fz.fr, fz.hk, fz.nw, fz.h0, fp, fun j s hj => ?_, fun j b hj hb => ?_, fun j k b hj hk => ?_⟩, a, xs, rfl, upd_same, ra.mono sg⟩
  · have hj' := lt_of_at hj
    have q := s1 j s (by rw [List.getElem?_set_ne (by omega), List.getElem?_append_left hj']; exact hj)
    rw [List.getElem?_append_left (by rw [← hl]; exact hj')] at q
    exact q
  · obtain ⟨g, h⟩ := s2 j b (by rw [List.length_set, List.length_append]; omega) hb
    refine ⟨g, h.imp id fun ⟨h1, x, y, h2⟩ => ⟨h1, x, y, ?_⟩⟩
    rw [List.getElem?_set_ne (by omega), List.getElem?_append_left hj] at h2
    exact h2
  · exact s3 j k b (by rw [List.length_set, List.length_append]; omega) (by rw [List.length_set, List.length_append]; omega)
end
end Vf

set_option Elab.async false
set_option linter.all false
set_option maxRecDepth 100000
set_option maxHeartbeats 4000000
/-! exceptions of one's own, held as values: over ValueError, KeyError, IndexError; made by position or by keyword -/
namespace Vf
open PySem PySem.Calls PySem.HandSPX

section
variable {prog : Program} {w : World} {A : Around} {E : Value → Shared → Prop} {R : Result → Shared → Prop} {h : Heap} {g : Array GenState} {d : Drawn} {t : Nat} {os : OsState}
variable {nm q : Str} {C N : Addr} {bs bm bmB : List Value} {hdct : Bool} {sn : List Str} {sub : List Value} {ab : Bool} {col : Option Bool} {dd : Option Addr} {k0 k1 k2 k3 k5 : Option Value} {B newId initId : String}

/-- what the chain of a class must hold so that its maker makes it -/
structure Chain (B : String) (bm : List Value) : Prop where
  hB : bm.contains (.type B) = true
  hA : bm.contains (.type "AttributeError") = false
  hN : bm.contains (.type "NameError") = false

theorem xk_check (F : ExcBaseFacts B newId initId bmB) (cb : Chain B bm) {rest : List Value} {kw : List (Str × Value)} {Q : Unit → Shared → Prop}
    (hC : h.get? C = some (excClassObj nm q C N bs bm hdct sn sub ab col dd k0 k1 k2 k3 k5 newId)) (hq : Q () ⟨h, g, d, t, os⟩) :
    wpAny (model prog w) A (checkBuiltinCall newId ⟨.ref C :: rest, kw⟩) Q E ⟨h, g, d, t, os⟩ := by
  have c1 : (Value.ref C :: bm).contains (.type B) = true := by rw [List.contains_cons, cb.hB, Bool.or_true]
  have c2 := F.noStar
  simp only [checkBuiltinCall, F.newKind, F.newSplit, F.newRow]
  repeat
    first
      | refine wpAny_loadPart_at hC ?_
      | (refine wpAny_isSubtype_exc hC ?_; rw [c1])
      | refine wpAny_staticBase_exc hC ?_
      | refine wpAny_madeBy_exc hC ?_
      | simp only [bne_self_eq_false, Bool.false_eq_true, if_false]
      | wp_step
  all_goals exact hq

theorem xk_new (F : ExcBaseFacts B newId initId bmB) (cb : Chain B bm) {rest : List Value} {kw : List (Str × Value)}
    (hC : h.get? C = some (excClassObj nm q C N bs bm hdct sn sub ab col dd k0 k1 k2 k3 k5 newId)) (hr : rest.length ≤ sizeLine)
    (hq : R (.ok (.ret (.ref (h.objs.size + 1)))) ⟨(h.push (W.kdv_tup rest)).push (excO C h.objs.size), g, d, t, os⟩) :
    codeAny (model prog w) A (.builtin newId ⟨.ref C :: rest, kw⟩) R ⟨h, g, d, t, os⟩ := by
  have c0 := F.ends
  have c1 : (Value.ref C :: bm).contains (.type B) = true := by rw [List.contains_cons, cb.hB, Bool.or_true]
  have c2 : (Value.ref C :: bm).contains (.type "AttributeError") = false := by
    rw [List.contains_cons, cb.hA]
    rfl
  have c3 : (Value.ref C :: bm).contains (.type "NameError") = false := by
    rw [List.contains_cons, cb.hN]
    rfl
  refine codeAny_builtinAt F.entry ?_
  unfold Builtin.«BaseException.__new__»
  refine wpAt_bind ?_
  show wpAt _ _ _ (stack >>= _) _ _ _
  refine wpAt_bind (wpAt_stack fun p below => wpAt_of_wpAny ?_)
  wp_walk
  refine wpAt_of_wpAny ?_
  rw [F.owner]
  repeat
    first
      | with_reducible refine wpAny_madeHere_exc F.canon hC ?_
      | with_reducible refine wpAny_loadPart_at hC ?_
      | (with_reducible refine wpAny_isSubtype_exc hC ?_; first | rw [c1] | rw [c2] | rw [c3])
      | wp_step
  show R _ _
  rw [Heap.size_push]
  exact hq

theorem xk_make (F : ExcBaseFacts B newId initId bmB) (cb : Chain B bm) {rest : List Value} {kw : List (Str × Value)} {fI : Addr} {Q : Fin → Shared → Prop}
    (hC : h.get? C = some (excClassObj nm q C N bs bm hdct sn sub ab col dd k0 k1 k2 k3 k5 newId))
    (hi : W.Looks (model prog w) h (typeLookup (.ref C) "__init__") (some (.ref fI))) (hb : ∀ self, W.Looks (model prog w) h (bindSpecial (.ref fI) self) (.ref fI, [self])) (hr : rest.length ≤ sizeLine)
    (hq : codeAny (model prog w) A (.call (.ref fI) ⟨.ref (h.objs.size + 1) :: rest, kw⟩)
      (fun r s' => match r with | .ok (.ret v) => v = .none ∧ Q (.done (.ret (.ref (h.objs.size + 1)))) s' | .ok _ => False | .error e => E e s')
      ⟨(h.push (W.kdv_tup rest)).push (excO C h.objs.size), g, d, t, os⟩) :
    wpAny (model prog w) A (Builtin.«type.__call__» ⟨.ref C :: rest, kw⟩) Q E ⟨h, g, d, t, os⟩ := by
  repeat
    first
      | with_reducible refine wpAny_loadPart_at hC ?_
      | with_reducible refine wpAny_madeBy_exc hC ?_
      | wp_step
  refine codeAny_call_builtin_code (Code.quiet_builtin _ F.quiet) (xk_check F cb hC ?_)
  refine xk_new F cb hC hr ?_
  show wpAny _ _ _ _ _ _
  have kk : ∀ b o, h.get? b = some o → ((h.push (W.kdv_tup rest)).push (excO C h.objs.size)).get? b = some o := fun b o e => Heap.get?_push_of_some _ (Heap.get?_push_of_some _ e)
  have hC2 := kk _ _ hC
  have hnew : ((h.push (W.kdv_tup rest)).push (excO C h.objs.size)).get? (h.objs.size + 1) = some (excO C h.objs.size) := by heap_get
  have cC : (Value.ref C :: bm).contains (.ref C) = true := by simp
  have i1 := hi.keeps kk
  have b1 := (hb (.ref (h.objs.size + 1))).keeps kk
  unfold isInstance
  repeat
    first
      | with_reducible refine wpAny_loadPart_at hnew ?_
      | (with_reducible refine wpAny_isSubtype_exc hC2 ?_; rw [cC])
      | wp_step
  show wpAny _ _ (typeLookup (.ref C) _) _ _ _
  refine i1.at ?_
  refine wpAny_holding (wpAny_bind (b1.at ?_))
  refine wpAny_bind (wpAny_call (codeAny_mono hq fun r s' z => ?_))
  rcases r with e | (v | _ | _ | _) <;> first | exact z | exact z.elim | skip
  obtain ⟨rfl, z⟩ := z
  first
    | exact wpAny_pure (wpAny_pure z)
    | (wp_walk; exact z)

theorem xk_call (F : ExcBaseFacts B newId initId bmB) (cb : Chain B bm) {rest : List Value} {kw : List (Str × Value)} {fI : Addr}
    (hC : h.get? C = some (excClassObj nm q C N bs bm hdct sn sub ab col dd k0 k1 k2 k3 k5 newId))
    (hi : W.Looks (model prog w) h (typeLookup (.ref C) "__init__") (some (.ref fI))) (hb : ∀ self, W.Looks (model prog w) h (bindSpecial (.ref fI) self) (.ref fI, [self])) (hr : rest.length ≤ sizeLine)
    (hq : codeAny (model prog w) (A.under (.builtin "type.__call__" ⟨.ref C :: rest, kw⟩)) (.call (.ref fI) ⟨.ref (h.objs.size + 1) :: rest, kw⟩) (W.InitBack (h.objs.size + 1) R)
      ⟨(h.push (W.kdv_tup rest)).push (excO C h.objs.size), g, d, t, os⟩) :
    codeAny (model prog w) A (.call (.ref C) ⟨rest, kw⟩) R ⟨h, g, d, t, os⟩ := by
  have f1 := tc_lookup
  have f2 := tc_bind (.ref C)
  have f3 := tc_sub
  have hTy : (⟨h, g, d, t, os⟩ : Shared).TypeIs (.ref C) "type" := ⟨_, hC, rfl⟩
  refine codeAny_of_tree ?_
  show wpAny _ _ (callAny (.ref C) _) _ _ _
  repeat (any_goals (first | assumption | with_reducible refine wpAny_loadPart_at hC ?_ | wp_step))
  refine ⟨rfl, ?_⟩
  have chk : ∀ {Q : Unit → Shared → Prop} {E : Value → Shared → Prop} {A : Around}, Q () ⟨h, g, d, t, os⟩ → wpAny (model prog w) A (checkBuiltinCall "type.__call__" ⟨.ref C :: rest, kw⟩) Q E ⟨h, g, d, t, os⟩ := by
    intro Q E A z
    simp only [checkBuiltinCall, tc_kind, tc_split]
    repeat (any_goals (first | assumption | with_reducible refine wpAny_loadPart_at hC ?_ | with_reducible refine wpAny_onRaise ?_ | with_reducible refine wpAny_map ?_ | wp_step))
  refine codeAny_call_builtin_at (Code.quiet_builtin _ (by decide +kernel)) entry_typeCall (chk (xk_make F cb hC hi hb hr ?_))
  refine codeAny_mono hq fun r s' z => ?_
  rcases r with e | (v | _ | _ | _) <;> exact z
end
end Vf

set_option Elab.async false
set_option linter.all false
set_option maxRecDepth 100000
set_option maxHeartbeats 4000000
/-! the rules over the layer: such an exception is made, its field stored and read, isinstance asked of it -/
namespace Vf
open PySem PySem.Spec PySem.Calls PyProof.Rows L2

/-! ### isinstance -/
section
variable {prog : Program} {w : World} {A : Around} {E : Value → Shared → Prop} {s : Shared} {K : PySem.W.Frag} {x D : Addr} {ox : Obj} {od : Option Obj}
theorem xk_find {name : Str} {a g : Value} (hc : (PySem.W.clsIn K D).isSome = true) (ha : PySem.W.findIn K (.ref D) name = some (some a)) (hg : PySem.W.specialIn K a "__get__" = some (some g)) (ht : PySem.W.takesIn K a = some true) :
    PySem.W.findObj K D od name = some (.bind g a) := by
  obtain ⟨cd, hc⟩ := Option.isSome_iff_exists.mp hc
  unfold PySem.W.findObj
  rw [hc, Option.bind_some, ha, Option.bind_some]
  simp [hg, ht]
open PySem.W in
theorem xk_class {Q : Option Value → Shared → Prop} (T : ExcC K D) (X : K.In s.heap) (I : PySem.W.InstAt s.heap x ox D od) (h : Q (some (.ref D)) { s with toks := s.toks + 1 }) :
    wpAny (model prog w) A (getAttr? (.ref x) "__class__") Q E s := by
  have hf : findObj K D od "__class__" = some (.bind (.builtin "getset_descriptor.__get__") (.builtin "object.__class__")) := xk_find (by obtain ⟨cd, hc, _⟩ := any_some T.hd; rw [hc]; rfl) T.ha T.hn T.ht
  obtain ⟨hp, g, d, t, os⟩ := s
  have l0 := I.type (M := model prog w)
  have l1 := looks_findIn (M := model prog w) X T.hg
  have l2 := looks_findIn (M := model prog w) X T.hk
  have l3 := looks_find (M := model prog w) X I hf
  have sub : Looks (model prog w) hp (isInstance (.ref x) (.type "BaseException")) true := l0.andThen (looks_subIn X T.hs)
  have z0 : (false && onTheHeap (Value.builtin "BaseException.__getattribute__")) = false := rfl
  have z2 : (Value.builtin "BaseException.__getattribute__" == Value.builtin "object.__getattribute__") = false := by decide +kernel
  have z1 : (onTheHeap (Value.ref D) && Value.builtin "BaseException.__getattribute__" == Value.builtin "object.__getattribute__") = false := by
    rw [z2]
    rfl
  unfold getAttr? getAttrBy? getAttrBy
  refine wpAny_bind (wpAny_mkText (wpAny_bind (wpAny_attempt (wpAny_holding (wpAny_bind (l0.at (wpAny_bind (l1.at ?_))))))))
  show wpAny _ _ (if (onTheHeap (Value.ref D) && Value.builtin "BaseException.__getattribute__" == Value.builtin "object.__getattribute__") = true then _ else _) _ _ _
  rw [z1, if_neg Bool.false_ne_true]
  unfold getAttrByItsOwn hookBefore
  refine wpAny_bind ?_
  rw [if_pos (show onTheHeap (Value.ref D) = true from rfl)]
  refine l2.at ?_
  refine wpAny_bind (wpAny_attempt (wpAny_holding ?_))
  unfold callGetattribute
  rw [z0, if_neg Bool.false_ne_true]
  unfold boundAndCalled
  rw [PySem.F.excAttr_ValueError.ga.bind (.ref x)]
  refine wpAny_bind (wpAny_pure ?_)
  show wpAny _ _ (call (.builtin "BaseException.__getattribute__") [.ref x, .str "__class__" t]) _ _ _
  refine wpAny_call (codeAny_call_builtin PySem.F.excAttr_ValueError.ga.plain PySem.F.entry_bexc_ga ?_)
  refine @check_slot (model prog w) _ _ ⟨hp, g, d, t + 1, os⟩ "BaseException.__getattribute__" "BaseException" "__getattribute__" (.ref x) [.str "__class__" t] [] _ (by decide +kernel) (by decide +kernel) sub (PySem.F.args_bexc_ga (.ref x) (.str "__class__" t)) ?_
  unfold Builtin.«object.__getattribute__»
  refine wpAny_bind (wpAny_of_eq (a := ((Value.ref x : Value), [Value.str "__class__" t])) (by first | rfl | (simp only [slotArgs]; rfl)) ?_)
  refine wpAny_bind (wpAny_pure (wpAny_bind (l0.at (wpAny_bind (l3.at ?_)))))
  show wpAny _ _ (holding [Value.builtin "object.__class__"] (call (.builtin "getset_descriptor.__get__") [.builtin "object.__class__", .ref x, .ref D]) >>= ret) _ _ _
  refine wpAny_bind (wpAny_holding (wpAny_call (class_get (s := ⟨hp, g, d, t + 1, os⟩) (ox := ox) (od := od) X I T.hm ?_)))
  refine wpAny_pure ?_
  show wpAny _ _ (handedOut (.ref D)) _ _ _
  rw [handedOut_of (v := .ref D) rfl]
  first
    | exact wpAny_pure (wpAny_pure h)
    | exact wpAny_pure h
    | exact wpAny_pure (wpAny_bind (wpAny_pure (wpAny_pure h)))
open PySem.W in
theorem xk_kit (T : ExcC K D) : KitX K (.ref x) (.ref D) (fun h => ∃ ox od, PySem.W.InstAt h x ox D od) where
  ty := fun _ _ _ ⟨_, _, I⟩ => I.type
  it := fun _ _ X _ => by
    obtain ⟨cdD, hcD, _⟩ := any_some T.hd
    unfold clsIn at hcD
    split at hcD
    · rename_i ho
      intro A' Q' E' s' k q
      unfold isType loadHead
      exact wpAny_bind (wpAny_loadPart (k _ _ (X _ _ ho)) (wpAny_pure q))
    · cases hcD
  ne := fun h tp dd its n sl X htp => by
    obtain ⟨cdD, hcD, _⟩ := any_some T.hd
    refine Bool.eq_false_iff.mpr fun q => ?_
    have e : D = tp := Value.ref.inj (beq_iff_eq.mp q)
    subst e
    unfold clsIn at hcD
    split at hcD
    · rename_i ho
      have z := (X _ _ ho).symm.trans htp
      cases z
    · cases hcD
  ca := fun X ⟨_, _, I⟩ k => xk_class T X I k
end

/-- at a: an exception of the class at C (whatever it keeps) -/
def XAt (H : Hp) (a C : Addr) : Prop := (∃ d dx fs, d = some dx ∧ H a = some (exo a C d) ∧ H dx = some (exd dx fs)) ∨ H a = some (ExO (.ref C) a)
theorem XAt.mono {H H' : Hp} {a C : Addr} (s : Same H H') (x : XAt H a C) : XAt H' a C := by
  rcases x with ⟨d, dx, fs, e, h1, h2⟩ | h
  · exact .inl ⟨d, dx, fs, e, s _ _ h1, s _ _ h2⟩
  · exact .inr (s _ _ h)
section
variable {X : Cx} {pins : List (Addr × Obj)} {σ : L2.St} {H : Hp} {s : Shared} {a C dx : Addr} {fs : List (Str × V)}
theorem xat_inst (I : Inv X pins σ H s) (h : XAt H a C) : ∃ ox od, PySem.W.InstAt s.heap a ox C od := by
  rcases h with ⟨d, dx, fs, rfl, h1, h2⟩ | h
  · obtain ⟨t1, ho⟩ := exo_at I.hok h1
    obtain ⟨mA, ⟨o, es, ep, hd, _⟩, _⟩ := exd_at I.hok h2
    exact ⟨_, some o, ho, rfl, rfl, hd⟩
  · obtain ⟨⟨oe, vs, ho, hz, hd, _⟩, _, _⟩ := I.hok a _ h
    obtain ⟨oc, od, oda, osl⟩ := oe
    obtain ⟨z1, z2⟩ := hz
    dsimp only at z1 z2 hd
    subst z1 z2 hd
    exact ⟨_, none, ho, rfl, rfl, trivial⟩
/-- isinstance(e, c) of such an exception -/
def rIsX (K : PySem.W.Frag) : List V → Hp → VK → Prop := fun xs H Q => ∃ (a C : Addr) (c : V) (cv : Value) (b : Bool), xs = [.ref a, c] ∧ XAt H a C ∧ ExcC K C ∧ ClsV c cv ∧ PySem.W.kitOne K (.ref C) cv = some b ∧ Q (.bl b) H
theorem call_isX : CallR X (.builtin "isinstance") (rIsX X.K) := by
  intro pins s σ H xs us Q I r h
  obtain ⟨a, C, c, cv, b, rfl, xa, T, k, e, q⟩ := h
  obtain ⟨u1, u2, rfl, r1, r2⟩ := vals2 r
  have e2 := k.eq r2
  subst e2
  cases r1
  exact PySem.W.kia_one (xk_kit T) I.kIn (xat_inst I xa) e (fun z => nomatch z) fun tk => ⟨.bl b, H, I.tok tk, rfl, q⟩
end

/-! ### the class, as the written part tells it -/
structure XC (K : PySem.W.Frag) (mg : Str → Option Value) (x : Str) (C fI : Addr) (f : Str) : Prop where
  gC : mg x = some (.ref C)
  cls : ∃ (B newId initId : String) (bmB : List Value) (nm q : Str) (N : Addr) (bs bm : List Value) (sn : List Str) (sub : List Value) (ab : Bool) (col : Option Bool) (dd : Option Addr) (k0 k1 k2 k3 k5 : Option Value),
    ExcBaseFacts B newId initId bmB ∧ Chain B bm ∧ K.lookup C = some (excClassObj nm q C N bs bm true sn sub ab col dd k0 k1 k2 k3 k5 newId) ∧ bm.contains (.type "object") = true ∧ ∀ self, refuseLoop self "__setattr__" bm = pure ()
  sa : PySem.W.findIn K (.ref C) "__setattr__" = some (some (.builtin "object.__setattr__"))
  no : PySem.W.findIn K (.ref C) f = some none
  kC : PySem.W.keepIn K (.ref C) = true
  iC : PySem.W.findIn K (.ref C) "__init__" = some (some (.ref fI))
  tI : PySem.W.typeIn K (.ref fI) = some (.type "function")
  ex : ExcC K C

section
variable {prog : Program} {w : World} {A : Around} {E : Value → Shared → Prop} {R : Result → Shared → Prop} {hp : Heap} {g : Array GenState} {d : Drawn} {t : Nat} {os : OsState}
open PySem.W PySem.HandSPX Builtin Builtin.ObjectAttr in
theorem xk_store {K : PySem.W.Frag} {name : Str} {tk : Tok} {v : Value} {x C : Addr} {fv : Array Value} {cd : ClassData} (X : K.In hp) (hx : hp.get? x = some { cls := .ref C, data := .fields fv }) (hcd : clsIn K C = some cd) (ne : cd.mro.isEmpty = false)
    (hob : cd.mro.contains (.type "object") = true) (hpass : refuseLoop (.ref x) "__setattr__" cd.mro = pure ()) (hh : cd.hasDict = true) (ha : findIn K (.ref C) name = some none)
    (hq : ∀ h' tk' dx, (∀ b o, b ≠ x → hp.get? b = some o → h'.get? b = some o) → hp.objs.size ≤ dx → dx ≠ x → h'.get? x = some { cls := .ref C, dict := some dx, data := .fields fv } →
      h'.Ns1 dx (fun y => if y = name then some v else none) → R (.ok (.ret .none)) ⟨h', g, d, tk', os⟩) :
    codeAny (model prog w) A (.call (.builtin "object.__setattr__") ⟨[.ref x, .str name tk, v], []⟩) R ⟨hp, g, d, t, os⟩ := by
  have J : InstAt hp x { cls := .ref C, data := .fields fv } C none := ⟨hx, rfl, rfl, trivial⟩
  have so := F.store_object
  have hxs : x ≠ hp.objs.size := Nat.ne_of_lt (Heap.lt_size hx)
  have sub : Looks (model prog w) hp (isInstance (.ref x) (.type "object")) true := J.type.andThen (looks_mroIn X (by unfold mroIn; rw [hcd, Option.bind_some, if_neg (by rw [ne]; decide), hob]))
  refine codeAny_call_builtin so.slot.plain so.entry (@check_slot (model prog w) _ _ ⟨hp, g, d, t, os⟩ "object.__setattr__" "object" "__setattr__" (.ref x) [.str name tk, v] [] _ so.kind so.split sub (so.args (.ref x) (.str name tk) v) ?_)
  have hmr : Looks (model prog w) hp (mroOf (.ref C)) cd.mro := (looks_clsIn X hcd).andThen .now
  have ht : Looks (model prog w) hp (storeTaker? none) none := .now
  have hcls : Looks (model prog w) hp (classData C) cd := looks_clsIn X hcd
  rw [osa_eq, refuse_eq]
  refine wpAny_bind (wpAny_bind (J.type.at (wpAny_bind (hmr.at ?_))))
  rw [hpass]
  refine wpAny_pure (wpAny_bind (J.type.at (wpAny_bind ((looks_findIn X ha).at (wpAny_bind (ht.at ?_))))))
  show wpAny _ _ (storeInOwnDict (.ref x) (.ref C) (.str name tk) name v false) _ _ _
  obtain ⟨nm, bs, mro, ns, qn, hd, sn, sb, ab, col, del⟩ := cd
  dsimp only at hh
  subst hh
  unfold storeInOwnDict ownDictForStores
  repeat
    first
      | with_reducible refine store_in_new ?_ ?_
      | with_reducible refine wpAny_loadPart_at hx ?_
      | with_reducible refine hcls.at ?_
      | wp_step
  · exact ⟨_, #[], _, (Heap.get?_update_ne _ _ _ _ hxs.symm).trans (Heap.get?_push_at rfl rfl), rfl, fun e he => absurd he (by simp), fun _ => rfl⟩
  · intro h' tk' hn' hs
    have hx1 : (hp.push { cls := .type "dict", data := .dict #[] }).get? x = some { cls := .ref C, data := .fields fv } := Heap.get?_push_of_some _ hx
    refine hq h' tk' hp.objs.size (fun b o hb ho => ?_) (Nat.le_refl _) hxs.symm ?_ hn'
    · exact (hs.2 b (Nat.ne_of_lt (Heap.lt_size ho))).trans ((Heap.get?_update_ne _ _ _ _ hb).trans (Heap.get?_push_of_some _ ho))
    · exact (hs.2 x hxs).trans (Heap.get?_update_self _ hx1 rfl)
end

section
variable {X : Cx} {pins : List (Addr × Obj)} {σ : L2.St} {H : Hp} {s : Shared} {a C fI dx : Addr} {f x : Str} {y : V} {u : Value} {A : Around}
/-- self.f = y, on a new exception -/
theorem xk_ost {Q : Unit → Shared → Prop} {E : Value → Shared → Prop} (T : XC X.K X.mg x C fI f) (I : Inv X pins σ H s) (e : H a = some (exo a C none)) (ry : RelV y u)
    (h : ∀ dx s', H dx = none → dx ≠ a → Inv X pins σ (upd (upd H dx (exd dx [(f, y)])) a (exo a C (some dx))) s' → Q () s') : wpAny (model X.prog X.w) A (setAttr (.ref a) f u) Q E s := by
  obtain ⟨B, newId, initId, bmB, nm, q, N, bs, bm, sn, sub, ab, col, dd, k0, k1, k2, k3, k5, F, cb, hC, hob, hps⟩ := T.cls
  have hcl : PySem.W.clsIn X.K C = some { name := nm, bases := bs, mro := .ref C :: bm, ns := N, qualname := q, hasDict := true, slotNames := sn, subclasses := sub, abstract := ab, collection := col, hasDel := false } := by
    unfold PySem.W.clsIn
    rw [hC] <;> rfl
  obtain ⟨t1, ho⟩ := exo_at I.hok e
  obtain ⟨hp, g, d, t, os⟩ := s
  refine PySem.W.set_plain I.kIn (ox := { cls := .ref C, dict := none, data := .fields #[.ref t1, .none, .none, .none, .bool false, .none] }) (od := none) ⟨ho, rfl, rfl, trivial⟩ T.sa ?_
  refine xk_store I.kIn ho hcl rfl (by show (Value.ref C :: bm).contains _ = true; rw [List.contains_cons, hob, Bool.or_true]) ((refuseLoop_ref _ _ C bm).trans (hps _)) rfl T.no (fun h' tk' dx k dn dne hx hn => ?_)
  have hnd : H dx = none := I.hok.fresh dn
  have nd : ∀ {b : Addr} {o : Obj}, hp.get? b = some o → b ≠ dx := fun {b o} z => Nat.ne_of_lt (Nat.lt_of_lt_of_le (Heap.lt_size z) dn)
  have na : ∀ {b : Addr}, H b = none → b ≠ a := fun {b} n z => by
    rw [z, e] at n
    cases n
  have un : Un X.fs [] H (upd (upd H dx (exd dx [(f, y)])) a (exo a C (some dx))) hp h' := by
    refine ⟨fun b o z n _ _ => k b o (na n) z, fun b o z n _ _ => ⟨o.slots, k b o (na n) z⟩, fun b o z n _ => ?_, fun b o z _ => ?_, fun b xs z => ?_, fun b o v z => ?_, fun b ps z => ?_⟩
    · rw [upd_ne (na n), upd_ne (nd z)]
      exact n
    · by_cases hb : b = a
      · exact ⟨_, by rw [hb]; exact hx⟩
      · exact ⟨o, k b o hb z⟩
    · rw [upd_ne (at_ne e z exo_tup), upd_ne (ne_of_none z hnd)]
      exact z
    · rw [upd_ne (at_ne e z exo_frz), upd_ne (ne_of_none z hnd)]
      exact z
    · exact ⟨#[], by rw [upd_ne (at_ne e z exo_tbl), upd_ne (ne_of_none z hnd), z]; simp⟩
  refine h dx _ hnd dne (I.un (t' := tk') un fun b o z => ?_)
  by_cases hb : b = a
  · subst hb
    rw [upd_same] at z
    cases z
    exact exo_ok hx
  · rw [upd_ne hb] at z
    by_cases hd : b = dx
    · subst hd
      rw [upd_same] at z
      cases z
      exact exd_ok hn (relO_put (fs := []) ry fun g => True.intro)
    · rw [upd_ne hd] at z
      refine (I.hok b o z).stay (fun c v hc y => k c v ?_ y) (fun c hc => ?_) fun c xs hc => ?_
      · rcases hc with hc | hc
        · rw [hc]
          exact hb
        · exact at_ne e hc exo_own
      · rw [upd_ne (at_ne e hc exo_own), upd_ne (ne_of_none hc hnd)]
        exact hc
      · rw [upd_ne (at_ne e hc exo_tup), upd_ne (ne_of_none hc hnd)]
        exact hc
end
section
variable {X : Cx} {C fI : Addr} {f x : Str} {o e : Expr} {to te : TE} {p p' pos kpos : Pos} {k : Nat} {fd : FuncData}
/-- self.f = e -/
def tSetX (C : Addr) (f : Str) (to te : TE) : TS := fun D σ H => te σ H fun y H1 => to σ H1 fun x H2 => ∃ a, x = .ref a ∧ H2 a = some (exo a C none) ∧ ∀ dx, H2 dx = none → dx ≠ a → D.nx σ (upd (upd H2 dx (exd dx [(f, y)])) a (exo a C (some dx)))
theorem ps_setX (T : XC X.K X.mg x C fI f) (ho : PE X o to) (he : PE X e te) (hs : swapsWith e (some (.Attribute o f p')) pos.line X.env = pure false := by rfl) : PS X (.Assign [.Attribute o f p'] e pos) (tSetX C f to te) := by
  refine ⟨fun pins s σ H D I h => ?_⟩
  refine plainObj_wpAny_Assign_Attribute (thn (he.run pins s σ H _ I h) fun v s1 ⟨y, H1, I1, r1, q1⟩ => thn (ho.run pins s1 σ H1 _ I1 q1) fun u s2 ⟨z, H2, I2, r2, a, ez, ea, q⟩ => ?_) hs
  subst ez
  obtain rfl : u = Value.ref a := r2
  exact xk_ost T I2 ea r1 fun dx s' n ne J => ⟨σ, _, J, q dx n ne⟩
/-- what every such __init__ promises: the value is kept under f -/
def spXI (C : Addr) (f : Str) : Sp := fun vs H Q _ => ∃ (a : Addr) (v : V), vs = [.ref a, v] ∧ H a = some (exo a C none) ∧ ∀ dx, H dx = none → dx ≠ a → Q .non (upd (upd H dx (exd dx [(f, v)])) a (exo a C (some dx)))
/-- how f(self, v) binds, v by place or by its name -/
def XBinds (K : PySem.W.Frag) (fd : FuncData) (f : Str) : Prop := ∀ (s : Shared) (a v : Value), K.In s.heap → BindsTo s fd ⟨[a, v], []⟩ [("self", a), (f, v)] ∧ BindsTo s fd ⟨[a], [(f, v)]⟩ [("self", a), (f, v)]
theorem run_xmk {pins : List (Addr × Obj)} {σ : L2.St} {H : Hp} {s : Shared} {Q : VK} {u : Value} {v : V} (rest : List Value) (kw : List (Str × Value)) (T : XC X.K X.mg x C fI f) (G : FnOk X.prog X.w X.K X.mg X.base CX0 k fI fd ["self", f] (spXI C f)) (hr : Room (k + 1) X.A)
    (hb : ∀ (s : Shared) (a : Value), X.K.In s.heap → BindsTo s fd ⟨a :: rest, kw⟩ [("self", a), (f, u)]) (hl : rest.length ≤ 1)
    (I : Inv X pins σ H s) (r : RelV v u) (q : ∀ a dx, H a = none → H dx = none → dx ≠ a → Q (.ref a) (upd (upd H dx (exd dx [(f, v)])) a (exo a C (some dx)))) :
    wpAny (model X.prog X.w) X.A (call (.ref C) rest kw) (EP X pins σ Q) X.xe s := by
  obtain ⟨B, newId, initId, bmB, nm, qn, N, bs, bm, sn, sub, ab, col, dd, k0, k1, k2, k3, k5, F, cb, hC, hob, hps⟩ := T.cls
  obtain ⟨hp, g, dr, tk, os⟩ := s
  have hsz : hp.objs.size ≤ hp.objs.size + 1 := Nat.le_succ _
  have hn : H (hp.objs.size + 1) = none := I.hok.fresh hsz
  have kk : ∀ b o, hp.get? b = some o → ((hp.push (PySem.W.kdv_tup rest)).push (PySem.HandSPX.excO C hp.objs.size)).get? b = some o := fun b o e => Heap.get?_push_of_some _ (Heap.get?_push_of_some _ e)
  have hget : ((hp.push (PySem.W.kdv_tup rest)).push (PySem.HandSPX.excO C hp.objs.size)).get? (hp.objs.size + 1) = some (PySem.HandSPX.excO C hp.objs.size) := by heap_get
  have I2 : Inv X pins σ (upd H (hp.objs.size + 1) (exo (hp.objs.size + 1) C none)) ⟨(hp.push (PySem.W.kdv_tup rest)).push (PySem.HandSPX.excO C hp.objs.size), g, dr, tk, os⟩ :=
    I.laid (t' := tk) (a := hp.objs.size + 1) (o := exo (hp.objs.size + 1) C none) (h' := (hp.push (PySem.W.kdv_tup rest)).push (PySem.HandSPX.excO C hp.objs.size)) kk hsz (exo_ok hget)
  have hz : rest.length ≤ sizeLine := Nat.le_of_lt (small100 (by omega))
  refine wpAny_call (xk_call F cb (I.kIn _ _ hC) (PySem.W.looks_findIn I.kIn T.iC) (fun self => PySem.W.bind_fn I.kIn self T.tI) hz
    (codeAny_mono (G.run _ X.stack _ _ ⟨Value.ref (hp.objs.size + 1) :: rest, kw⟩ [Value.ref (hp.objs.size + 1), u] [V.ref (hp.objs.size + 1), v] (fun y H' => y = .non ∧ Q (.ref (hp.objs.size + 1)) H') E0 (hr.make C rest kw) (I2.env0.make C rest kw) (hb _ _ I2.kIn) (.cons rfl (.cons r .nil))
      ⟨_, _, rfl, upd_same, fun dx hdx hne => ⟨rfl, ?_⟩⟩) fun r s' hq' => ?_))
  · have hd : H dx = none := by
      rw [upd_ne hne] at hdx
      exact hdx
    have e : upd (upd (upd H (hp.objs.size + 1) (exo (hp.objs.size + 1) C none)) dx (exd dx [(f, v)])) (hp.objs.size + 1) (exo (hp.objs.size + 1) C (some dx)) = upd (upd H dx (exd dx [(f, v)])) (hp.objs.size + 1) (exo (hp.objs.size + 1) C (some dx)) := by
      funext b
      by_cases h1 : b = hp.objs.size + 1
      · rw [h1, upd_same, upd_same]
      · rw [upd_ne h1, upd_ne h1]
        unfold upd
        rw [if_neg h1]
    rw [e]
    exact q _ dx hn hd hne
  · cases r with
    | error er => exact hq'.elim
    | ok fl =>
      cases fl with
      | ret u' =>
        obtain ⟨y, H', I3, rv, ey, q3⟩ := I2.after hq'
        subst ey
        exact ⟨rv, ⟨V.ref (hp.objs.size + 1), H', I3, rfl, q3⟩⟩
      | next => exact hq'.elim
      | brk => exact hq'.elim
      | cont => exact hq'.elim
/-- C(e), C(f = e): a new exception that keeps the value -/
def tMkX (C : Addr) (f : Str) (te : TE) : TE := fun σ H Q => te σ H fun v H1 => ∀ a dx, H1 a = none → H1 dx = none → dx ≠ a → Q (.ref a) (upd (upd H1 dx (exd dx [(f, v)])) a (exo a C (some dx)))
theorem pe_mkX (T : XC X.K X.mg x C fI f) (G : FnOk X.prog X.w X.K X.mg X.base CX0 k fI fd ["self", f] (spXI C f)) (hr : Room (k + 1) X.A) (hb : XBinds X.K fd f) (hg : Gl X x) (he : PE X e te) (hdb : (x == ("__debug__" : Str)) = false := by decide)
    (hs : starEach [e] X.env = (false, eval e X.env) :: starEach [] X.env := by rfl) (hpl : (backTo pos (starEach [] X.env)).any (·.1) = false := by rfl) : PE X (.Call (.Name x p) [e] [] pos) (tMkX C f te) := by
  refine ⟨fun pins s σ H Q I h => ?_⟩
  refine wpAny_Call_Name_kw (ld_glob I hg T.gC ?_ hdb)
  refine PySem.W.callWith_K (h₀ := X.base) I.ok.mod.kin T.kC ?_ hs hpl
  rw [hs]
  show wpAny _ _ (spliced ((false, eval e X.env) :: backTo pos (starEach [] X.env))) _ _ s
  refine Calls.spliced_cons (thn (he.run pins s σ H _ I h) fun u s1 ⟨v, H1, I1, r1, q1⟩ => ?_)
  refine Calls.spliced_nil ⟨I1.kIn, ?_⟩
  exact run_xmk [u] [] T G hr (fun s a X => (hb s a u X).1) (Nat.le_refl _) I1 r1 q1
theorem pe_mkXk (T : XC X.K X.mg x C fI f) (G : FnOk X.prog X.w X.K X.mg X.base CX0 k fI fd ["self", f] (spXI C f)) (hr : Room (k + 1) X.A) (hb : XBinds X.K fd f) (hg : Gl X x) (he : PE X e te) (hdb : (x == ("__debug__" : Str)) = false := by decide)
    (hall : (backToKw pos (keywordEach [⟨some f, e, kpos⟩] X.env)).all (·.1.isSome) = true := by rfl) (hks : (backToKw pos (keywordEach [⟨some f, e, kpos⟩] X.env)).filterMap (·.1) = [f] := by rfl)
    (hpl : ((backTo pos (starEach [] X.env)).any (·.1) || (backToKw pos (keywordEach [⟨some f, e, kpos⟩] X.env)).any (·.1.isNone)) = false := by rfl) : PE X (.Call (.Name x p) [] [⟨some f, e, kpos⟩] pos) (tMkX C f te) := by
  refine ⟨fun pins s σ H Q I h => ?_⟩
  refine wpAny_Call_Name_kw (ld_glob I hg T.gC ?_ hdb)
  refine PySem.W.callWith_KW0 (h₀ := X.base) I.ok.mod.kin T.kC hall ?_ hpl
  have hk : PK X [⟨some f, e, kpos⟩] (tCons te tNil) := pk_cons he pk_nil
  refine thn (hk.run pos pins s σ H (fun vs H1 => match vs with | [v] => ∀ a dx, H1 a = none → H1 dx = none → dx ≠ a → Q (.ref a) (upd (upd H1 dx (exd dx [(f, v)])) a (exo a C (some dx))) | _ => False) I h) fun ws s2 ⟨zs, H2, I2, rz, q2⟩ => ⟨I2.kIn, ?_⟩
  rw [hks]
  match zs, rz, q2 with
  | [v], rz, q2 =>
    obtain ⟨u, rfl, ru⟩ := vals1 rz
    exact run_xmk [] [(f, u)] T G hr (fun s a X => (hb s a u X).2) (Nat.zero_le _) I2 ru q2
/-- what is kept under f -/
def tGetX (C : Addr) (f : Str) (te : TE) : TE := fun σ H Q => te σ H fun x H1 => ∃ (a dx : Addr) (v : V), x = .ref a ∧ H1 a = some (exo a C (some dx)) ∧ H1 dx = some (exd dx [(f, v)]) ∧ Q v H1
theorem pe_getX (T : XC X.K X.mg x C fI f) (he : PE X e te) (hb : attributeBase e f X.env (eval e X.env) = eval e X.env := by rfl) : PE X (.Attribute e f pos) (tGetX C f te) := by
  refine ⟨fun pins s σ H Q I h => ?_⟩
  refine attr_of hb (thn (he.run pins s σ H _ I h) fun u s1 ⟨x, H1, I1, rx, a, dx, v, ex, ea, ed, q⟩ => ?_)
  subst ex
  cases rx
  obtain ⟨t1, ho⟩ := exo_at I1.hok ea
  obtain ⟨mA, hns, hr⟩ := exd_at I1.hok ed
  obtain ⟨od, hod, hl⟩ := lookIn_ns hns
  have l : List.lookup f [(f, v)] = some v := by simp [List.lookup]
  obtain ⟨u, hu, ru⟩ := RelO.some_of (v := v) (o := mA f) (by rw [← l]; exact hr f)
  have J : PySem.W.InstAt s1.heap a _ C (some od) := ⟨ho, rfl, rfl, hod⟩
  exact HandSPX.exc_get I1.kIn J T.ex.hg T.ex.hk T.ex.hs (PySem.W.findObj_own T.ex.hd T.no rfl (by rw [hl, hu])) (handed_of ru) ⟨v, H1, I1.tok _, ru, q⟩
/-- C(), a class without an own __init__ -/
theorem pe_mk0 {bmB : List Value} {B newId initId : String} (F : ExcBaseFacts B newId initId bmB) (q : PySem.W.excIn X.K C bmB newId = true) (gC : X.mg x = some (.ref C)) (kC : PySem.W.keepIn X.K (.ref C) = true) (hg : Gl X x) (hdb : (x == ("__debug__" : Str)) = false := by decide) :
    PE X (.Call (.Name x p) [] [] pos) (fun σ H Q => ∀ a, H a = none → Q (.ref a) (upd H a (ExO (.ref C) a))) := by
  refine ⟨fun pins s σ H Q I h => ?_⟩
  refine wpAny_Call_Name_kw (ld_glob I hg gC ?_ hdb)
  refine PySem.W.callWith_K0 I.kIn kC ?_
  obtain ⟨bm, N, nm, qn, bs, hdct, sn, sub, ab, col, dd, k0, k1, k2, k3, k5, mN, hC, hN, hni, T⟩ := exc_obj I.kIn q
  refine wpAny_call_exc_subT F T hC hN hni (fun h' a hm => ?_) (by show 0 ≤ sizeLine; exact Nat.zero_le _)
  have hn : H a = none := I.hok.gone hm.new
  obtain ⟨t, ht, _, _⟩ := hm.there
  exact ⟨.ref a, upd H a (ExO (.ref C) a), I.laidN hm.keeps hm.new hn (exO_ok ht ⟨rfl, rfl⟩ rfl rfl rfl (show 4 < 6 by decide)), rfl, h a hn⟩
end
end Vf

set_option Elab.async false
set_option linter.all false
set_option maxRecDepth 100000
set_option maxHeartbeats 4000000
/-! raise C(e): C an own exception with an __init__ that keeps one field -/
namespace Vf
open PySem PySem.Spec PySem.Calls PyProof.Rows L2
section
variable {X : Cx} {C fI : Addr} {f x : Str} {e : Expr} {te : TE} {p pos : Pos} {k : Nat} {fd : FuncData}
def tMkP (C : Addr) (f : Str) (te : TE) : L2.St → Hp → XK → Prop := fun σ H Q => te σ H fun v H1 => ∀ d, H1 d = none → Q (.ref C) (some d) (upd H1 d (.xd [(f, v)]))
theorem pmk_x (T : XC X.K X.mg x C fI f) (R : Raises X (.ref C)) (G : FnOk X.prog X.w X.K X.mg X.base CX0 k fI fd ["self", f] (spXI C f)) (hr : Room (k + 1) X.A) (hb : XBinds X.K fd f) (hg : Gl X x) (he : PE X e te) (hdb : (x == ("__debug__" : Str)) = false := by decide)
    (hs : starEach [e] X.env = (false, eval e X.env) :: starEach [] X.env := by rfl) (hpl : (backTo pos (starEach [] X.env)).any (·.1) = false := by rfl) : PMk X (.Call (.Name x p) [e] [] pos) (tMkP C f te) := by
  intro pins s σ H Q I h
  refine wpAny_Call_Name_kw (ld_glob I hg T.gC ?_ hdb)
  refine PySem.W.callWith_K (h₀ := X.base) I.ok.mod.kin T.kC ?_ hs hpl
  rw [hs]
  show wpAny _ _ (spliced ((false, eval e X.env) :: backTo pos (starEach [] X.env))) _ _ s
  refine Calls.spliced_cons (thn (he.run pins s σ H _ I h) fun u s1 ⟨v, H1, I1, r1, q1⟩ => ?_)
  refine Calls.spliced_nil ⟨I1.kIn, ?_⟩
  obtain ⟨B, newId, initId, bmB, nm, qn, N, bs, bm, sn, sub, ab, col, dd, k0, k1, k2, k3, k5, F, cb, hC, hob, hps⟩ := T.cls
  obtain ⟨hp, g, dr, tk, os⟩ := s1
  have hsz : hp.objs.size ≤ hp.objs.size + 1 := Nat.le_succ _
  have hn : H1 (hp.objs.size + 1) = none := I1.hok.fresh hsz
  have kk : ∀ b o, hp.get? b = some o → ((hp.push (PySem.W.kdv_tup [u])).push (PySem.HandSPX.excO C hp.objs.size)).get? b = some o := fun b o e => Heap.get?_push_of_some _ (Heap.get?_push_of_some _ e)
  have hget : ((hp.push (PySem.W.kdv_tup [u])).push (PySem.HandSPX.excO C hp.objs.size)).get? (hp.objs.size + 1) = some (PySem.HandSPX.excO C hp.objs.size) := by heap_get
  have I2 : Inv X pins σ (upd H1 (hp.objs.size + 1) (exo (hp.objs.size + 1) C none)) ⟨(hp.push (PySem.W.kdv_tup [u])).push (PySem.HandSPX.excO C hp.objs.size), g, dr, tk, os⟩ :=
    I1.laid (t' := tk) (a := hp.objs.size + 1) (o := exo (hp.objs.size + 1) C none) (h' := (hp.push (PySem.W.kdv_tup [u])).push (PySem.HandSPX.excO C hp.objs.size)) kk hsz (exo_ok hget)
  have hz : [u].length ≤ sizeLine := Nat.le_of_lt (small100 (by simp))
  show wpAny _ _ (call (.ref C) [u]) _ _ _
  refine wpAny_call (xk_call F cb (I1.kIn _ _ hC) (PySem.W.looks_findIn I1.kIn T.iC) (fun self => PySem.W.bind_fn I1.kIn self T.tI) hz
    (codeAny_mono (G.run _ X.stack _ _ ⟨[Value.ref (hp.objs.size + 1), u], []⟩ [Value.ref (hp.objs.size + 1), u] [V.ref (hp.objs.size + 1), v] (fun y H' => y = .non ∧ ∃ d, H' (hp.objs.size + 1) = some (exo (hp.objs.size + 1) C (some d)) ∧ H' d = some (exd d [(f, v)]) ∧ H1 d = none ∧ d ≠ hp.objs.size + 1 ∧ H' = upd (upd (upd H1 (hp.objs.size + 1) (exo (hp.objs.size + 1) C none)) d (exd d [(f, v)])) (hp.objs.size + 1) (exo (hp.objs.size + 1) C (some d))) E0
      (hr.make C [u] []) (I2.env0.make C [u] []) (hb _ _ _ I2.kIn).1 (.cons rfl (.cons r1 .nil))
      ⟨_, _, rfl, upd_same, fun dx hdx hne => ⟨rfl, dx, upd_same, ?_, ?_, hne, rfl⟩⟩) fun r s' hq' => ?_))
  · rw [upd_ne hne, upd_same]
  · rw [upd_ne hne] at hdx
    exact hdx
  · cases r with
    | error er => exact hq'.elim
    | ok fl =>
      cases fl with
      | ret u' =>
        obtain ⟨y, H', os2, bare2, un2, hok2, rv, ey, d, ea, ed, hd1, hne, eH⟩ := hq'
        subst ey
        obtain ⟨h2, g2, d2, t2, os'⟩ := s'
        refine ⟨rv, mk_end R I1 hsz kk un2 hok2 os2 bare2 ea ed hd1 ?_⟩
        have e2 : upd (del H' (hp.objs.size + 1)) d (.xd [(f, v)]) = upd H1 d (.xd [(f, v)]) := by
          funext b
          by_cases h1 : b = d
          · rw [h1, upd_same, upd_same]
          · rw [upd_ne h1, upd_ne h1]
            by_cases h2 : b = hp.objs.size + 1
            · rw [h2, del_same, hn]
            · rw [del_ne h2, eH, upd_ne h2, upd_ne h1, upd_ne h2]
        rw [e2]
        exact q1 d hd1
      | next => exact hq'.elim
      | brk => exact hq'.elim
      | cont => exact hq'.elim
end
end Vf

set_option Elab.async false
set_option linter.all false
set_option maxRecDepth 100000
set_option maxHeartbeats 1000000
/-! the data layer: targets, statements, loops -/
namespace Vf
open PySem PySem.Spec PyProof.Rows L2
section
variable {X : Cx} {K : PySem.W.Frag} {W : WX}

/-! ### targets -/
abbrev DG := D → Ev → (Ev → Prop) → Prop
/-- like σ but at these slots -/
def Like {α : Type} (vs : List Nat) (σ σ' : List α) : Prop := σ'.length = σ.length ∧ ∀ j, j ∉ vs → σ'[j]? = σ[j]?
theorem Like.refl {α : Type} (vs : List Nat) (σ : List α) : Like vs σ σ := ⟨rfl, fun _ _ => rfl⟩
theorem Like.trans {α : Type} {vs : List Nat} {σ σ' σ'' : List α} (a : Like vs σ σ') (b : Like vs σ' σ'') : Like vs σ σ'' := ⟨b.1.trans a.1, fun j h => (b.2 j h).trans (a.2 j h)⟩
theorem Like.mono {α : Type} {vs us : List Nat} {σ σ' : List α} (a : Like vs σ σ') (h : ∀ j ∈ vs, j ∈ us) : Like us σ σ' := ⟨a.1, fun j n => a.2 j fun z => n (h j z)⟩
theorem wipe_at {σ : L2.St} : ∀ {vs : List Nat} {j : Nat}, (wipe σ vs)[j]? = if j ∈ vs ∧ j < σ.length then some none else σ[j]?
  | [], j => by
    unfold wipe
    rw [if_neg (by simp)]
  | v :: vs, j => by
    unfold wipe
    by_cases e : v = j
    · subst e
      by_cases h : v < σ.length
      · rw [List.getElem?_set_self (by rw [wipe_length]; exact h), if_pos ⟨List.mem_cons_self, h⟩]
      · rw [List.getElem?_eq_none (by rw [List.length_set, wipe_length]; omega), if_neg (fun z => h z.2), List.getElem?_eq_none (by omega)]
    · rw [List.getElem?_set_ne e, wipe_at (vs := vs)]
      by_cases h : j ∈ vs ∧ j < σ.length
      · rw [if_pos h, if_pos ⟨List.mem_cons_of_mem _ h.1, h.2⟩]
      · rw [if_neg h, if_neg]
        rintro ⟨z, z2⟩
        rcases List.mem_cons.mp z with z | z
        · exact e z.symm
        · exact h ⟨z, z2⟩
theorem Like.wipe {vs : List Nat} {σ σ' : L2.St} (a : Like vs σ σ') : wipe σ' vs = wipe σ vs := by
  refine List.ext_getElem? fun j => ?_
  rw [wipe_at, wipe_at, a.1]
  by_cases h : j ∈ vs ∧ j < σ.length
  · rw [if_pos h, if_pos h]
  · rw [if_neg h, if_neg h]
    by_cases hj : j ∈ vs
    · have : ¬ j < σ.length := fun z => h ⟨hj, z⟩
      rw [List.getElem?_eq_none (by rw [a.1]; omega), List.getElem?_eq_none (by omega)]
    · exact a.2 j hj
theorem like_wipe (vs : List Nat) (σ : L2.St) : Like vs σ (wipe σ vs) := ⟨wipe_length σ vs, fun j h => by rw [wipe_at, if_neg fun z => h z.1]⟩
structure TgOk (K : PySem.W.Frag) (t : TG) (F : DG) (vs : List Nat) : Prop where
  ok : ∀ c σ H G ρ v d (P : Ev → Prop) (Q : L2.St → Hp → Prop), Rep K c σ H G ρ → Rp K G v d → F d ρ P → (∀ ρ' σ', P ρ' → Rep K c σ' H G ρ' → Like vs σ σ' → Like vs ρ ρ' → Q σ' H) → t v σ H Q
structure TgsOk (K : PySem.W.Frag) (t : TGs) (F : List D → Ev → (Ev → Prop) → Prop) (vs : List Nat) : Prop where
  ok : ∀ c σ H G ρ xs ds (P : Ev → Prop) (Q : L2.St → Hp → Prop), Rep K c σ H G ρ → RpAll K G xs ds → F ds ρ P → (∀ ρ' σ', P ρ' → Rep K c σ' H G ρ' → Like vs σ σ' → Like vs ρ ρ' → Q σ' H) → t xs σ H Q
def nmT (i : Nat) : DG := fun d ρ P => P (ρ.set i (.val d))
def nilT : List D → Ev → (Ev → Prop) → Prop := fun ds ρ P => ds = [] ∧ P ρ
def consT (F : DG) (Fs : List D → Ev → (Ev → Prop) → Prop) : List D → Ev → (Ev → Prop) → Prop := fun ds ρ P => match ds with
  | d :: r => F d ρ fun ρ1 => Fs r ρ1 P
  | [] => False
def tpT (n : Nat) (Fs : List D → Ev → (Ev → Prop) → Prop) : DG := fun d ρ P => ∃ l, d = .tup l ∧ l.length = n ∧ Fs l ρ P
theorem tg_nm (i : Nat) : TgOk K (gName i) (nmT i) [i] :=
  ⟨fun c σ H G ρ v d P Q r q f k => k _ _ f (r.putVal q) ⟨List.length_set, fun j h => List.getElem?_set_ne fun z => h (by rw [z]; simp)⟩ ⟨List.length_set, fun j h => List.getElem?_set_ne fun z => h (by rw [z]; simp)⟩⟩
theorem tgs_nil : TgsOk K gNil nilT [] :=
  ⟨fun c σ H G ρ xs ds P Q r q f k => by
    obtain ⟨rfl, f⟩ := f
    exact ⟨q, k _ _ f r (Like.refl _ _) (Like.refl _ _)⟩⟩
theorem tgs_cons {t : TG} {F : DG} {us vs : List Nat} {ts : TGs} {Fs : List D → Ev → (Ev → Prop) → Prop} (h : TgOk K t F us) (hs : TgsOk K ts Fs vs) : TgsOk K (gCons t ts) (consT F Fs) (us ++ vs) :=
  ⟨fun c σ H G ρ xs ds P Q r q f k => by
    cases ds with
    | nil => exact f.elim
    | cons d ds =>
      obtain ⟨x, xr, rfl, q1, q2⟩ := q
      refine ⟨x, xr, rfl, h.ok c σ H G ρ x d _ _ r q1 f fun ρ1 σ1 f1 r1 l1 m1 => ?_⟩
      refine hs.ok c σ1 H G ρ1 xr ds _ _ r1 q2 f1 fun ρ2 σ2 f2 r2 l2 m2 => k _ _ f2 r2 ((l1.mono fun j z => List.mem_append_left _ z).trans (l2.mono fun j z => List.mem_append_right _ z)) ((m1.mono fun j z => List.mem_append_left _ z).trans (m2.mono fun j z => List.mem_append_right _ z))⟩
theorem tg_tp {n : Nat} {ts : TGs} {Fs : List D → Ev → (Ev → Prop) → Prop} {vs : List Nat} (hs : TgsOk K ts Fs vs) : TgOk K (gTup K n ts) (tpT n Fs) vs :=
  ⟨fun c σ H G ρ v d P Q r q f k => by
    obtain ⟨l, rfl, hl, f⟩ := f
    obtain ⟨a, xs, rfl, h1, ra⟩ := q
    exact ⟨a, xs, rfl, same_sqT r.gh h1, by rw [ra.len]; exact hl, hs.ok c σ H G ρ xs l _ _ r ra f k⟩⟩

/-! ### statements -/
def nxS : DS := fun ρ e => e.nx ρ
def seqS (F1 F2 : DS) : DS := fun ρ e => F1 ρ { e with nx := fun ρ' => F2 ρ' e }
theorem pds_nil : PDSs K W X [] nxS := PSs.imp pss_nil fun D σ H ⟨c, G, ρ, e, r, f, o⟩ => o.nx _ _ _ _ f r (Same.refl _)
theorem pds_cons {st : Stmt} {rest : List Stmt} {F1 F2 : DS} (h1 : PDS K W X st F1) (h2 : PDSs K W X rest F2) : PDSs K W X (st :: rest) (seqS F1 F2) := by
  refine PSs.imp (pss_cons h1 h2) fun D σ H ⟨c, G, ρ, e, r, f, o⟩ => ?_
  exact ⟨c, G, ρ, _, r, f, ⟨fun ρ' σ' H' G' f' r' s' => ⟨c, G', ρ', e, r', f', o.step s'⟩, o.rt, o.bk, o.ct, o.rz⟩⟩
theorem pds_one {st : Stmt} {F1 : DS} (h1 : PDS K W X st F1) : PDSs K W X [st] F1 := pss_one h1
theorem pds_never {sts : List Stmt} : PDSs K W X sts (fun _ _ => False) := PSs.imp pss_never fun D σ H ⟨c, G, ρ, e, r, f, o⟩ => f
theorem pd_never {st : Stmt} : PDS K W X st (fun _ _ => False) := PS.imp ps_never fun D σ H ⟨c, G, ρ, e, r, f, o⟩ => f
def passS : DS := nxS
theorem pds_pass {pos : Pos} : PDS K W X (.Pass pos) nxS := PS.imp ps_pass fun D σ H ⟨c, G, ρ, e, r, f, o⟩ => o.nx _ _ _ _ f r (Same.refl _)
def setS (i : Nat) (F : DE) : DS := fun ρ e => F ρ (fun d ρ1 => e.nx (ρ1.set i (.val d))) e.rz
theorem LX.of4 {c : Ct} {G : Hp} {e : De} {D : Ends} {σ : L2.St} (o : O4 K W c G e D) : LX K W c σ G e.rz := o.rz σ
theorem setS_go {i : Nat} {F : DE} {D : Ends} {σ : L2.St} {H : Hp} (h : LS K W (setS i F) D σ H) : tAsg (LE K W F) (gName i) D σ H := by
  obtain ⟨c, G, ρ, e, r, f, o⟩ := h
  exact ⟨c, G, ρ, _, _, r, f, fun d ρ1 v H1 G1 f1 r1 s1 q1 => o.nx _ _ _ _ f1 (r1.putVal q1) s1, o.rz σ⟩
theorem pds_set {i : Nat} {x : Str} {e : Expr} {F : DE} {pos pos' : Pos} (hN : X.N.Nodup) (he : PD K W X e F) (hi : X.N[i]? = some x := by rfl) (hx : Loc X.env.scope x := by first | exact .inl rfl | exact .inr rfl)
    (hs : swapsWith e (some (.Name x pos')) pos.line X.env = pure false := by rfl) (hf : X.fn x = true ∨ X.env.scope.names.lookup x = some .local := by first | exact .inl rfl | exact .inr rfl) : PDS K W X (.Assign [.Name x pos'] e pos) (setS i F) :=
  PS.imp (ps_set hN hi hx he hs hf) fun _ _ _ h => setS_go h
/-- target = e, a target of several names -/
def asgS (F : DE) (Fg : DG) : DS := fun ρ e => F ρ (fun d ρ1 => Fg d ρ1 e.nx) e.rz
theorem pds_asg {tg e : Expr} {F : DE} {t : TG} {Fg : DG} {vs : List Nat} {pos : Pos} (he : PD K W X e F) (hg : PG X tg t) (ht : TgOk K t Fg vs) (hs : swapsWithSole [tg] e pos.line X.env = pure false := by rfl) (hw : swappedStores [tg] e X.env = pure none := by rfl)
    (h1 : (assignEach [tg] X.env).map (·.2) = [assign tg X.env] := by rfl) : PDS K W X (.Assign [tg] e pos) (asgS F Fg) := by
  refine PS.imp (ps_asg he hg hs hw h1) fun D σ H ⟨c, G, ρ, e, r, f, o⟩ => ?_
  exact ⟨c, G, ρ, _, _, r, f, fun d ρ1 v H1 G1 f1 r1 s1 q1 => ht.ok c σ H1 G1 ρ1 v d _ _ r1 q1 f1 fun ρ2 σ2 f2 r2 _ _ => o.nx _ _ _ _ f2 r2 s1, o.rz σ⟩
/-- x, y = a, b -/
def parS (i j : Nat) (Fs : DA) : DS := fun ρ e => Fs ρ (fun ds ρ1 => ∃ d d', ds = [d, d'] ∧ e.nx ((ρ1.set i (.val d)).set j (.val d'))) e.rz
theorem pds_par {i j : Nat} {x y : Str} {a b : Expr} {Fs : DA} {px py pt pos : Pos} {kt k2 pt2} (hc : X.calm = true) (hN : X.N.Nodup) (ha : PDA K W X [a, b] Fs) (hi : X.N[i]? = some x := by rfl) (hj : X.N[j]? = some y := by rfl) (hij : i ≠ j := by decide)
    (hx : X.env.scope.names.lookup x = some .local := by rfl) (hy : X.env.scope.names.lookup y = some .local := by rfl) (hw : swappedStores [.Tuple [.Name x px, .Name y py] kt pt] (.Tuple [a, b] k2 pt2) X.env = pure (some [x, y]) := by rfl)
    (hs : swapsWithSole [.Tuple [.Name x px, .Name y py] kt pt] (.Tuple [a, b] k2 pt2) pos.line X.env = pure false := by rfl) :
    PDS K W X (.Assign [.Tuple [.Name x px, .Name y py] kt pt] (.Tuple [a, b] k2 pt2) pos) (parS i j Fs) := by
  refine PS.imp (ps_par hc hN hi hj hij hx hy ha hw hs) fun D σ H ⟨c, G, ρ, e, r, f, o⟩ => ?_
  refine ⟨c, G, ρ, _, _, r, f, fun ds ρ1 vs H1 G1 f1 r1 s1 q1 => ?_, o.rz σ⟩
  obtain ⟨d, d', rfl, f1⟩ := f1
  obtain ⟨v, w, rfl, qa, qb⟩ := rpAll2 q1
  exact ⟨v, w, rfl, o.nx _ _ _ _ f1 ((r1.putVal qa).putVal qb) s1⟩
def drpS (F : DE) : DS := fun ρ e => F ρ (fun _ ρ1 => e.nx ρ1) e.rz
theorem pds_expr {e : Expr} {F : DE} {pos : Pos} (he : PD K W X e F) (hs : swapsWith e none pos.line X.env = pure false := by rfl) : PDS K W X (.Expr e pos) (drpS F) :=
  PS.imp (ps_expr he hs) fun D σ H ⟨c, G, ρ, e, r, f, o⟩ => ⟨c, G, ρ, _, _, r, f, fun d ρ1 v H1 G1 f1 r1 s1 _ => o.nx _ _ _ _ f1 r1 s1, o.rz σ⟩
def retS (F : DE) : DS := fun ρ e => F ρ e.rt e.rz
theorem pds_ret {e : Expr} {F : DE} {pos : Pos} (he : PD K W X e F) : PDS K W X (.Return (some e) pos) (retS F) :=
  PS.imp (ps_ret he) fun D σ H ⟨c, G, ρ, e, r, f, o⟩ => ⟨c, G, ρ, _, _, r, f, fun d ρ1 v H1 G1 f1 r1 s1 q1 => o.rt _ _ _ _ _ _ f1 r1 s1 q1, o.rz σ⟩
def retN : DS := fun ρ e => e.rt .non ρ
theorem pds_retN {pos : Pos} : PDS K W X (.Return none pos) retN :=
  PS.imp ps_retN fun D σ H ⟨c, G, ρ, e, r, f, o⟩ => o.rt _ _ σ _ _ _ f r (Same.refl _) rfl
def ifS (C : DT) (T U : DS) : DS := fun ρ e => C ρ (fun b ρ1 => if b = true then T ρ1 e else U ρ1 e) e.rz
theorem pds_if {c : Expr} {a b : List Stmt} {C : DT} {T U : DS} {pos : Pos} (hc : PDT K W X c C) (ha : PDSs K W X a T) (hb : PDSs K W X b U) : PDS K W X (.If c a b pos) (ifS C T U) := by
  refine PS.imp (ps_if hc ha hb) fun D σ H ⟨c, G, ρ, e, r, f, o⟩ => ?_
  refine ⟨c, G, ρ, _, _, r, f, fun b ρ1 H1 G1 f1 r1 s1 => ?_, o.rz σ⟩
  cases b with
  | true => exact ⟨c, G1, ρ1, e, r1, f1, o.step s1⟩
  | false => exact ⟨c, G1, ρ1, e, r1, f1, o.step s1⟩
/-- raise C(e) -/
def rzS (C : Addr) (f : Str) (F : DE) : DS := fun ρ e => F ρ (fun d ρ1 => e.rz ⟨C, f, d⟩ ρ1) e.rz
theorem pds_raise {C fI : Addr} {f x : Str} {e : Expr} {F : DE} {p pos pos' : Pos} {k : Nat} {fd : FuncData} (tk : Takes X W) (T : XC X.K X.mg x C fI f) (R : Raises X (.ref C)) (Gf : FnOk X.prog X.w X.K X.mg X.base CX0 k fI fd ["self", f] (spXI C f)) (hr : Room (k + 1) X.A) (hb : XBinds X.K fd f) (he : PD K W X e F) (hc : X.calm = true := by rfl) (hg : Gl X x := by rfl)
    (hdb : (x == ("__debug__" : Str)) = false := by decide) (hs : starEach [e] X.env = (false, eval e X.env) :: starEach [] X.env := by rfl) (hpl : (backTo pos (starEach [] X.env)).any (·.1) = false := by rfl) : PDS K W X (.Raise (some (.Call (.Name x p) [e] [] pos)) none pos') (rzS C f F) := by
  refine PS.imp (ps_raise hc tk (pmk_x T R Gf hr hb hg he hdb hs hpl)) fun D σ H ⟨c, G, ρ, e, r, f, o⟩ => ?_
  exact ⟨c, G, ρ, _, _, r, f, fun d ρ1 v H1 G1 f1 r1 s1 q1 a ha => (o.rz σ) _ _ _ _ _ _ f1 r1 s1 q1 ha, o.rz σ⟩

/-! ### tests -/
def andT (A B : DT) : DT := fun ρ P R => A ρ (fun b ρ1 => if b = true then B ρ1 P R else P false ρ1) R
def orT (A B : DT) : DT := fun ρ P R => A ρ (fun b ρ1 => if b = true then P true ρ1 else B ρ1 P R) R
def notT (A : DT) : DT := fun ρ P R => A ρ (fun b ρ1 => P (!b) ρ1) R
abbrev PDW (K : PySem.W.Frag) (W : WX) (X : Cx) (e : Expr) (F : DT) : Prop := PW X e (LT K W F)
theorem pdw_and1 {a : Expr} {A : DT} {pos : Pos} (h : PDT K W X a A) : PDW K W X (.BoolOp .And [a] pos) A := pw_and1 h
theorem pdw_or1 {a : Expr} {A : DT} {pos : Pos} (h : PDT K W X a A) : PDW K W X (.BoolOp .Or [a] pos) A := pw_or1 h
theorem pdw_and {a b : Expr} {rest : List Expr} {A B : DT} {pos : Pos} (ha : PDT K W X a A) (hb : PDW K W X (.BoolOp .And (b :: rest) pos) B) : PDW K W X (.BoolOp .And (a :: b :: rest) pos) (andT A B) := by
  refine PW.imp (pw_and ha hb) fun σ H Q ⟨c, G, ρ, P, R, r, f, k, kx⟩ => ?_
  refine ⟨c, G, ρ, _, R, r, f, fun b ρ1 H1 G1 f1 r1 s1 => ?_, kx⟩
  cases b with
  | true => exact ⟨c, G1, ρ1, P, R, r1, f1, fun b ρ2 H2 G2 f2 r2 s2 => k _ _ _ _ f2 r2 (s1.trans s2), kx.step s1⟩
  | false => exact k _ _ _ _ f1 r1 s1
theorem pdw_or {a b : Expr} {rest : List Expr} {A B : DT} {pos : Pos} (ha : PDT K W X a A) (hb : PDW K W X (.BoolOp .Or (b :: rest) pos) B) : PDW K W X (.BoolOp .Or (a :: b :: rest) pos) (orT A B) := by
  refine PW.imp (pw_or ha hb) fun σ H Q ⟨c, G, ρ, P, R, r, f, k, kx⟩ => ?_
  refine ⟨c, G, ρ, _, R, r, f, fun b ρ1 H1 G1 f1 r1 s1 => ?_, kx⟩
  cases b with
  | false => exact ⟨c, G1, ρ1, P, R, r1, f1, fun b ρ2 H2 G2 f2 r2 s2 => k _ _ _ _ f2 r2 (s1.trans s2), kx.step s1⟩
  | true => exact k _ _ _ _ f1 r1 s1
theorem pdt_w {e : Expr} {F : DT} (h : PDW K W X e F) : PDT K W X e F := h.pt
theorem pdt_not {a : Expr} {A : DT} {pos : Pos} (h : PDT K W X a A) : PDT K W X (.UnaryOp .Not a pos) (notT A) :=
  PT.imp (pt_not h) fun σ H Q ⟨c, G, ρ, P, R, r, f, k, kx⟩ => ⟨c, G, ρ, _, R, r, f, fun b ρ1 H1 G1 f1 r1 s1 => k _ _ _ _ f1 r1 s1, kx⟩
/-- and, or, not of bools as a value -/
def andD (A B : DE) : DE := fun ρ P R => A ρ (fun d ρ1 => ∃ b, d = .bl b ∧ if b = true then B ρ1 P R else P (.bl false) ρ1) R
def orD (A B : DE) : DE := fun ρ P R => A ρ (fun d ρ1 => ∃ b, d = .bl b ∧ if b = true then P (.bl true) ρ1 else B ρ1 P R) R
def notD (A : DE) : DE := fun ρ P R => A ρ (fun d ρ1 => ∃ b, d = .bl b ∧ P (.bl (!b)) ρ1) R
theorem pd_one {op} {a : Expr} {A : DE} {pos : Pos} (h : PD K W X a A) : PD K W X (.BoolOp op [a] pos) A := pe_one h
theorem pd_and {a b : Expr} {rest : List Expr} {A B : DE} {pos : Pos} (ha : PD K W X a A) (hb : PD K W X (.BoolOp .And (b :: rest) pos) B) : PD K W X (.BoolOp .And (a :: b :: rest) pos) (andD A B) := by
  refine PE.imp (pe_and ha hb) fun σ H Q ⟨c, G, ρ, P, R, r, f, k, kx⟩ => ?_
  refine ⟨c, G, ρ, _, R, r, f, fun d ρ1 v H1 G1 f1 r1 s1 q1 => ?_, kx⟩
  obtain ⟨b, rfl, f1⟩ := f1
  refine ⟨b, q1, ?_⟩
  cases b with
  | true => exact ⟨c, G1, ρ1, P, R, r1, f1, fun d ρ2 v H2 G2 f2 r2 s2 q2 => k _ _ _ _ _ f2 r2 (s1.trans s2) q2, kx.step s1⟩
  | false => exact k _ _ _ _ _ f1 r1 s1 rfl
theorem pd_or {a b : Expr} {rest : List Expr} {A B : DE} {pos : Pos} (ha : PD K W X a A) (hb : PD K W X (.BoolOp .Or (b :: rest) pos) B) : PD K W X (.BoolOp .Or (a :: b :: rest) pos) (orD A B) := by
  refine PE.imp (pe_or ha hb) fun σ H Q ⟨c, G, ρ, P, R, r, f, k, kx⟩ => ?_
  refine ⟨c, G, ρ, _, R, r, f, fun d ρ1 v H1 G1 f1 r1 s1 q1 => ?_, kx⟩
  obtain ⟨b, rfl, f1⟩ := f1
  refine ⟨b, q1, ?_⟩
  cases b with
  | false => exact ⟨c, G1, ρ1, P, R, r1, f1, fun d ρ2 v H2 G2 f2 r2 s2 q2 => k _ _ _ _ _ f2 r2 (s1.trans s2) q2, kx.step s1⟩
  | true => exact k _ _ _ _ _ f1 r1 s1 rfl
theorem pd_not {a : Expr} {A : DE} {pos : Pos} (h : PD K W X a A) : PD K W X (.UnaryOp .Not a pos) (notD A) := by
  refine PE.imp (pe_not h) fun σ H Q ⟨c, G, ρ, P, R, r, f, k, kx⟩ => ?_
  refine ⟨c, G, ρ, _, R, r, f, fun d ρ1 v H1 G1 f1 r1 s1 q1 => ?_, kx⟩
  obtain ⟨b, rfl, f1⟩ := f1
  exact ⟨b, q1, k _ _ _ _ _ f1 r1 s1 rfl⟩
def iteD (C : DT) (A B : DE) : DE := fun ρ P R => C ρ (fun b ρ1 => if b = true then A ρ1 P R else B ρ1 P R) R
theorem pd_ite {c a b : Expr} {C : DT} {A B : DE} {pos : Pos} (hc : PDT K W X c C) (ha : PD K W X a A) (hb : PD K W X b B) : PD K W X (.IfExp c a b pos) (iteD C A B) := by
  refine PE.imp (pe_ifExp hc ha hb) fun σ H Q ⟨c, G, ρ, P, R, r, f, k, kx⟩ => ?_
  refine ⟨c, G, ρ, _, R, r, f, fun b ρ1 H1 G1 f1 r1 s1 => ?_, kx⟩
  cases b with
  | true => exact ⟨c, G1, ρ1, P, R, r1, f1, fun d ρ2 v H2 G2 f2 r2 s2 q2 => k _ _ _ _ _ f2 r2 (s1.trans s2) q2, kx.step s1⟩
  | false => exact ⟨c, G1, ρ1, P, R, r1, f1, fun d ρ2 v H2 G2 f2 r2 s2 q2 => k _ _ _ _ _ f2 r2 (s1.trans s2) q2, kx.step s1⟩

/-! ### what is walked -/
/-- the iterator J gives l, one by one -/
def WalkD (K : PySem.W.Frag) (J : It) (G : Hp) (l : List D) : Prop := ∀ i H G', Same G G' → Same G' H → (∀ d, l[i]? = some d → J.go i H ∧ ∀ x H', J.yld i H x H' → ∃ G'', Ext H G' H' G'' ∧ Rp K G'' x d) ∧ (l.length = i → J.stop i H)
abbrev DI := Ev → (List D → Ev → Prop) → RK → Prop
def LI (K : PySem.W.Frag) (W : WX) (F : DI) : TI := fun σ H R => ∃ c G ρ P Rz, Rep K c σ H G ρ ∧ F ρ P Rz ∧ (∀ l ρ' J H' G', P l ρ' → Rep K c σ H' G' ρ' → Same G G' → WalkD K J G' l → R J H') ∧ LX K W c σ G Rz
abbrev PDI (K : PySem.W.Frag) (W : WX) (X : Cx) (tg e : Expr) (F : DI) : Prop := PI X tg e (LI K W F)
theorem PI.imp {tg e : Expr} {t t' : TI} (h : PI X tg e t) (m : ∀ σ H R, t' σ H R → t σ H R) : PI X tg e t' := ⟨fun pins s σ H R I q => h.run pins s σ H R I (m _ _ _ q)⟩
def seqI (F : DE) : DI := fun ρ P R => F ρ (fun d ρ1 => ∃ l, seqB d = some l ∧ P l ρ1) R
theorem walk_lst {G : Hp} {a : Addr} {xs : List V} {l : List D} (h : G a = some (.lst xs)) (r : RpAll K G xs l) : WalkD K (Itl K a) G l := fun i H G' s1 s2 => by
  have hs : SqL K H a xs := SqL.of (s2 _ _ (s1 _ _ h))
  refine ⟨fun d hd => ?_, fun hl => ⟨xs, hs, by rw [r.len]; exact Nat.le_of_eq hl⟩⟩
  obtain ⟨x, hx, q⟩ := r.at hd
  refine ⟨⟨xs, x, hs, hx⟩, fun y H' hy => ?_⟩
  obtain ⟨rfl, hy⟩ := hy
  have e := hy xs hs
  rw [hx] at e
  cases e
  exact ⟨G', Ext.refl s2, q.mono s1⟩
theorem walk_tup {G : Hp} {a : Addr} {xs : List V} {l : List D} (h : SqT K G a xs) (r : RpAll K G xs l) : WalkD K (Itt K a) G l := fun i H G' s1 s2 => by
  have hs : SqT K H a xs := same_sqT s2 (same_sqT s1 h)
  refine ⟨fun d hd => ?_, fun hl => ⟨xs, hs, by rw [r.len]; exact Nat.le_of_eq hl⟩⟩
  obtain ⟨x, hx, q⟩ := r.at hd
  refine ⟨⟨xs, x, hs, hx⟩, fun y H' hy => ?_⟩
  obtain ⟨rfl, hy⟩ := hy
  have e := hy xs hs
  rw [hx] at e
  cases e
  exact ⟨G', Ext.refl s2, q.mono s1⟩
theorem pdi_seq (hK : X.K = K) {tg e : Expr} {F : DE} (he : PD K W X e F) : PDI K W X tg e (seqI F) := by
  refine PI.imp (pi_seq he) fun σ H Rr ⟨c, G, ρ, P, R, r, f, k, kx⟩ => ?_
  refine ⟨c, G, ρ, _, R, r, f, fun d ρ1 v H1 G1 f1 r1 s1 q1 => ?_, kx⟩
  subst hK
  obtain ⟨l, el, f1⟩ := f1
  cases d with
  | lst m =>
    cases el
    obtain ⟨a, xs, rfl, h1, ra⟩ := q1
    exact ⟨a, true, rfl, ⟨xs, SqL.of (r1.gh _ _ h1)⟩, k _ _ _ _ _ f1 r1 s1 (walk_lst h1 ra)⟩
  | tup m =>
    cases el
    obtain ⟨a, xs, rfl, h1, ra⟩ := q1
    exact ⟨a, false, rfl, ⟨xs, same_sqT r1.gh h1⟩, k _ _ _ _ _ f1 r1 s1 (walk_tup h1 ra)⟩
  | _ => cases el
def strI (F : DE) : DI := fun ρ P R => F ρ (fun d ρ1 => ∃ z, d = .str z ∧ P (z.cps.toList.map fun c => .str ⟨#[c]⟩) ρ1) R
theorem pdi_str {tg e : Expr} {F : DE} (he : PD K W X e F) : PDI K W X tg e (strI F) := by
  refine PI.imp (pi_str he) fun σ H Rr ⟨c, G, ρ, P, R, r, f, k, kx⟩ => ?_
  refine ⟨c, G, ρ, _, R, r, f, fun d ρ1 v H1 G1 f1 r1 s1 q1 => ?_, kx⟩
  obtain ⟨z, rfl, f1⟩ := f1
  refine ⟨z, q1, k _ _ _ _ _ f1 r1 s1 fun i H' G' s2 s3 => ⟨fun d hd => ?_, fun hl => ?_⟩⟩
  · rw [List.getElem?_map] at hd
    cases e : z.cps.toList[i]? with
    | none => rw [e] at hd; cases hd
    | some ch =>
      rw [e] at hd
      cases hd
      have e' : z.cps[i]? = some ch := by rw [← Array.getElem?_toList]; exact e
      refine ⟨by have := lt_of_at e; rw [Array.length_toList] at this; exact this, fun x H'' hy => ?_⟩
      obtain ⟨rfl, c', hc, rfl⟩ := hy
      rw [e'] at hc
      cases hc
      exact ⟨G', Ext.refl s3, rfl⟩
  · rw [List.length_map, Array.length_toList] at hl
    exact Nat.le_of_eq hl
def rng1I (Fs : DA) : DI := fun ρ P R => Fs ρ (fun ds ρ1 => ∃ j : Int, ds = [.int j] ∧ -(2 ^ 62) ≤ j ∧ j < 2 ^ 62 ∧ P ((List.range j.toNat).map fun (i : Nat) => .int i) ρ1) R
def rng2I (Fs : DA) : DI := fun ρ P R => Fs ρ (fun ds ρ1 => ∃ i j : Int, ds = [.int i, .int j] ∧ (-(2 ^ 62) ≤ i ∧ i < 2 ^ 62 ∧ -(2 ^ 62) ≤ j ∧ j < 2 ^ 62) ∧ P ((List.range (j - i).toNat).map fun (k : Nat) => .int (i + k)) ρ1) R
theorem walk_rng {G : Hp} (lo : Int) (n : Nat) : WalkD K (Itr lo n) G ((List.range n).map fun (k : Nat) => D.int (lo + k)) := fun i H G' s1 s2 => by
  refine ⟨fun d hd => ?_, fun hl => ?_⟩
  · rw [List.getElem?_map] at hd
    by_cases h : i < n
    · rw [List.getElem?_range h] at hd
      cases hd
      exact ⟨h, fun x H' ⟨e1, e2⟩ => by subst e1 e2; exact ⟨G', Ext.refl s2, rfl⟩⟩
    · rw [List.getElem?_eq_none (by rw [List.length_range]; omega)] at hd
      cases hd
  · rw [List.length_map, List.length_range] at hl
    exact Nat.le_of_eq hl
theorem pdi_rng1 {tg a : Expr} {Fs : DA} {p pos : Pos} (hm : X.mg "range" = none) (ha : PDA K W X [a] Fs) (hg : Gl X "range" := by rfl) (hs : starEach [a] X.env = [(false, eval a X.env)] := by rfl) : PDI K W X tg (.Call (.Name "range" p) [a] [] pos) (rng1I Fs) := by
  refine PI.imp (pi_range1 hg hm ha hs) fun σ H Rr ⟨c, G, ρ, P, R, r, f, k, kx⟩ => ?_
  refine ⟨c, G, ρ, _, R, r, f, fun ds ρ1 vs H1 G1 f1 r1 s1 q1 => ?_, kx⟩
  obtain ⟨j, rfl, h1, h2, f1⟩ := f1
  obtain ⟨v, rfl, q⟩ := rpAll1 q1
  cases (show v = _ from q)
  refine ⟨j, rfl, h1, h2, k _ _ _ _ _ f1 r1 s1 ?_⟩
  have := walk_rng (K := K) (G := G1) 0 j.toNat
  simpa using this
theorem pdi_rng2 {tg a b : Expr} {Fs : DA} {p pos : Pos} (hm : X.mg "range" = none) (ha : PDA K W X [a, b] Fs) (hg : Gl X "range" := by rfl) (hs : starEach [a, b] X.env = [(false, eval a X.env), (false, eval b X.env)] := by rfl) (hs2 : starEach [b] X.env = [(false, eval b X.env)] := by rfl) :
    PDI K W X tg (.Call (.Name "range" p) [a, b] [] pos) (rng2I Fs) := by
  refine PI.imp (pi_range2 hg hm ha hs hs2) fun σ H Rr ⟨c, G, ρ, P, R, r, f, k, kx⟩ => ?_
  refine ⟨c, G, ρ, _, R, r, f, fun ds ρ1 vs H1 G1 f1 r1 s1 q1 => ?_, kx⟩
  obtain ⟨i, j, rfl, h, f1⟩ := f1
  obtain ⟨v, w, rfl, qa, qb⟩ := rpAll2 q1
  cases (show v = _ from qa)
  cases (show w = _ from qb)
  exact ⟨i, j, rfl, h, k _ _ _ _ _ f1 r1 s1 (walk_rng i _)⟩

/-! ### for, while -/
def loopD (Fg : DG) (Fb : DS) : List D → De → Ev → Prop
  | [], e, ρ => e.nx ρ
  | d :: ds, e, ρ => Fg d ρ fun ρ1 => Fb ρ1 { e with nx := fun ρ' => loopD Fg Fb ds e ρ', ct := fun ρ' => loopD Fg Fb ds e ρ', bk := e.nx }
def forS (Fi : DI) (Fg : DG) (Fb : DS) : DS := fun ρ e => Fi ρ (fun l ρ1 => loopD Fg Fb l e ρ1) e.rz
theorem pds_for {tg iter : Expr} {body : List Stmt} {Fi : DI} {t : TG} {Fg : DG} {Fb : DS} {vs : List Nat} {pos : Pos} (hp : PassesOwn (model X.prog X.w) X.A X.env X.xe) (hi : PDI K W X tg iter Fi) (hg : PG X tg t) (ht : TgOk K t Fg vs) (hb : PDSs K W X body Fb) (hc : X.calm = true := by rfl)
    (hs : ∀ x, foldedSetIterable iter X.env x = pure x := by intro _; rfl) : PDS K W X (.For tg iter body [] pos) (forS Fi Fg Fb) := by
  refine PS.imp (ps_for hp hc hi hg hb hs) fun D σ H ⟨c, G, ρ, e, r, f, o⟩ => ?_
  refine ⟨c, G, ρ, _, _, r, f, fun l ρ1 J H1 G1 f1 r1 s1 w1 => ?_, o.rz σ⟩
  refine ⟨fun i m σ' H' => ∃ G' ρ', m = l.length - i ∧ i ≤ l.length ∧ loopD Fg Fb (l.drop i) e ρ' ∧ Rep K c σ' H' G' ρ' ∧ Same G1 G', ⟨_, G1, ρ1, rfl, Nat.zero_le _, f1, r1, Same.refl _⟩, ?_⟩
  rintro i m σ' H' ⟨G', ρ', rfl, hi, f', r', s'⟩
  obtain ⟨w2, w3⟩ := w1 i H' G' s' r'.gh
  by_cases hl : i < l.length
  · obtain ⟨hgo, hy⟩ := w2 l[i] (List.getElem?_eq_getElem hl)
    rw [List.drop_eq_getElem_cons hl] at f'
    refine .inr ⟨hgo, fun σ'' H'' => ∃ G'' ρ'', loopD Fg Fb (l.drop (i + 1)) e ρ'' ∧ Rep K c σ'' H'' G'' ρ'' ∧ Same G1 G'', fun σ'' H'' ⟨G'', ρ'', f'', r'', s''⟩ => ⟨l.length - (i + 1), by omega, G'', ρ'', rfl, hl, f'', r'', s''⟩, fun x H2 hx => ?_⟩
    obtain ⟨G2, ex, rp⟩ := hy x H2 hx
    refine ht.ok c σ' H2 G2 ρ' x _ _ _ (r'.ext ex) rp f' fun ρ3 σ3 f3 r3 _ _ => ?_
    have s13 := s1.trans (s'.trans ex.g)
    refine ⟨c, G2, ρ3, _, r3, f3, ⟨fun ρ4 σ4 H4 G4 f4 r4 s4 => ⟨G4, ρ4, f4, r4, (s'.trans ex.g).trans s4⟩, fun d ρ4 σ4 v H4 G4 f4 r4 s4 q4 => o.rt _ _ _ _ _ _ f4 r4 (s13.trans s4) q4, fun ρ4 σ4 H4 G4 f4 r4 s4 => o.nx _ _ _ _ f4 r4 (s13.trans s4), fun ρ4 σ4 H4 G4 f4 r4 s4 => ⟨G4, ρ4, f4, r4, (s'.trans ex.g).trans s4⟩, fun σ4 => (o.rz σ4).step s13⟩⟩
  · have e1 : i = l.length := by omega
    rw [List.drop_eq_nil_of_le (by omega)] at f'
    exact .inl ⟨w3 (by omega), o.nx _ _ _ _ f' r' (s1.trans s')⟩
/-- while: within n turns -/
def whD (C : DT) (Fb : DS) : Nat → De → Ev → Prop
  | 0, _, _ => False
  | n + 1, e, ρ => C ρ (fun b ρ1 => if b = true then Fb ρ1 { e with nx := fun ρ' => whD C Fb n e ρ', ct := fun ρ' => whD C Fb n e ρ', bk := e.nx } else e.nx ρ1) e.rz
def whS (C : DT) (Fb : DS) : DS := fun ρ e => ∃ n, whD C Fb n e ρ
theorem pds_while {t : Expr} {body : List Stmt} {C : DT} {Fb : DS} {pos : Pos} (hp : PassesOwn (model X.prog X.w) X.A X.env X.xe) (hc : PDT K W X t C) (hb : PDSs K W X body Fb) : PDS K W X (.While t body [] pos) (whS C Fb) := by
  refine PS.imp (ps_while hp hc hb) fun D σ H ⟨c, G, ρ, e, r, ⟨n, f⟩, o⟩ => ?_
  refine ⟨fun m σ' H' => ∃ G' ρ', whD C Fb m e ρ' ∧ Rep K c σ' H' G' ρ' ∧ Same G G', ⟨n, G, ρ, f, r, Same.refl _⟩, ?_⟩
  rintro m σ' H' ⟨G', ρ', f', r', s'⟩
  cases m with
  | zero => exact f'.elim
  | succ m =>
    refine ⟨c, G', ρ', _, _, r', f', fun b ρ1 H1 G1 f1 r1 s1 => ?_, (o.rz σ').step s'⟩
    have s2 := s'.trans s1
    cases b with
    | false => exact o.nx _ _ _ _ f1 r1 s2
    | true =>
      refine ⟨fun σ'' H'' => ∃ G'' ρ'', whD C Fb m e ρ'' ∧ Rep K c σ'' H'' G'' ρ'' ∧ Same G G'', fun σ'' H'' ⟨G'', ρ'', f'', r'', s''⟩ => ⟨m, Nat.lt_succ_self _, G'', ρ'', f'', r'', s''⟩, ?_⟩
      refine ⟨c, G1, ρ1, _, r1, f1, ⟨fun ρ4 σ4 H4 G4 f4 r4 s4 => ⟨G4, ρ4, f4, r4, s2.trans s4⟩, fun d ρ4 σ4 v H4 G4 f4 r4 s4 q4 => o.rt _ _ _ _ _ _ f4 r4 (s2.trans s4) q4, fun ρ4 σ4 H4 G4 f4 r4 s4 => o.nx _ _ _ _ f4 r4 (s2.trans s4), fun ρ4 σ4 H4 G4 f4 r4 s4 => ⟨G4, ρ4, f4, r4, s2.trans s4⟩, fun σ4 => (o.rz σ4).step s2⟩⟩
end
end Vf

set_option Elab.async false
set_option linter.all false
set_option maxRecDepth 100000
set_option maxHeartbeats 1000000
/-! the data layer: new lists, comprehensions -/
namespace Vf
open PySem PySem.Spec PyProof.Rows L2
section
variable {X : Cx} {K : PySem.W.Frag} {W : WX}
/-- an expression whose list is new -/
def LF (K : PySem.W.Frag) (W : WX) (F : DA) : TE := fun σ H Q => ∃ c G ρ P R, Rep K c σ H G ρ ∧ F ρ P R ∧ (∀ l ρ' a H' G', P l ρ' → Rep K c (σ ++ [some (.ref a)]) H' G' (ρ' ++ [.own l]) → ρ'.length = σ.length → Same G G' → Q (.ref a) H') ∧ LX K W c σ G R
abbrev PF (K : PySem.W.Frag) (W : WX) (X : Cx) (e : Expr) (F : DA) : Prop := PE X e (LF K W F)
def lstF (F : DA) : DE := fun ρ P R => F ρ (fun l ρ' => P (.lst l) ρ') R
theorem LE.fr {F : DA} {σ : L2.St} {H : Hp} {Q : VK} (h : LE K W (lstF F) σ H Q) : LF K W F σ H Q := by
  obtain ⟨c, G, ρ, P, R, r, f, k, kx⟩ := h
  refine ⟨c, G, ρ, _, R, r, f, fun l ρ' a H' G' f' r' hl s' => ?_, kx⟩
  obtain ⟨G2, s2, r2, q2⟩ := r'.keepIt hl
  exact k _ _ _ _ _ f' r2 (s'.trans s2) q2
theorem pd_fr {e : Expr} {F : DA} (h : PF K W X e F) : PD K W X e (lstF F) := PE.imp h fun _ _ _ h => h.fr
/-- name = a new list, owned by the slot -/
def ownS (i : Nat) (F : DA) : DS := fun ρ e => F ρ (fun l ρ1 => e.nx (ρ1.set i (.own l))) e.rz
theorem ownS_go {i : Nat} {F : DA} {D : Ends} {σ : L2.St} {H : Hp} (h : LS K W (ownS i F) D σ H) : tAsg (LF K W F) (gName i) D σ H := by
  obtain ⟨c, G, ρ, e, r, f, o⟩ := h
  exact ⟨c, G, ρ, _, _, r, f, fun l ρ1 a H1 G1 f1 r1 hl s1 => o.nx _ _ _ _ f1 (r1.take hl) s1, o.rz σ⟩
theorem pds_own {i : Nat} {x : Str} {e : Expr} {F : DA} {pos pos' : Pos} (hN : X.N.Nodup) (he : PF K W X e F) (hi : X.N[i]? = some x := by rfl) (hx : Loc X.env.scope x := by first | exact .inl rfl | exact .inr rfl)
    (hs : swapsWith e (some (.Name x pos')) pos.line X.env = pure false := by rfl) (hf : X.fn x = true ∨ X.env.scope.names.lookup x = some .local := by first | exact .inl rfl | exact .inr rfl) : PDS K W X (.Assign [.Name x pos'] e pos) (ownS i F) :=
  PS.imp (ps_set hN hi hx he hs hf) fun _ _ _ h => ownS_go h
/-- [a, b] -/
def disF (Fs : DA) : DA := fun ρ P R => Fs ρ (fun ds ρ1 => ds.length ≤ sizeLine ∧ P ds ρ1) R
theorem pf_lst {es : List Expr} {Fs : DA} {pos : Pos} (h : PDA K W X es Fs) : PF K W X (.List es pos) (disF Fs) := by
  refine PE.imp (pe_lst h) fun σ H Q ⟨c, G, ρ, P, R, r, f, k, kx⟩ => ?_
  exact ⟨c, G, ρ, _, R, r, f, fun ds ρ1 vs H1 G1 f1 r1 s1 q1 => ⟨by rw [q1.len]; exact f1.1, fun p hp => k _ _ _ _ _ f1.2 (r1.push hp q1) r1.len s1⟩, kx⟩
/-- list(e) -/
def listF (Fs : DA) : DA := fun ρ P R => Fs ρ (fun ds ρ1 => ∃ d l, ds = [d] ∧ seqB d = some l ∧ P l ρ1) R
theorem pf_list (hK : X.K = K) {e : Expr} {Fs : DA} {p pos : Pos} (hm : X.mg "list" = none) (ha : PDA K W X [e] Fs) (hg : Gl X "list" := by rfl) (he : starEach [e] X.env = (false, eval e X.env) :: starEach [] X.env := by rfl) (hpl : (backTo pos (starEach [] X.env)).any (·.1) = false := by rfl) :
    PF K W X (.Call (.Name "list" p) [e] [] pos) (listF Fs) := by
  refine PE.imp (pe_callTy call_list_of hg hm (by decide +kernel) ha (by decide) (by decide) he hpl) fun σ H Q ⟨c, G, ρ, P, R, r, f, k, kx⟩ => ?_
  refine ⟨c, G, ρ, _, R, r, f, fun ds ρ1 vs H1 G1 f1 r1 s1 q1 => ?_, kx⟩
  subst hK
  obtain ⟨d, l, rfl, el, f1⟩ := f1
  obtain ⟨v, rfl, q⟩ := rpAll1 q1
  cases d with
  | lst m =>
    cases el
    obtain ⟨a, xs, rfl, h1, ra⟩ := q
    exact ⟨a, xs, rfl, .inl (SqL.of (r1.gh _ _ h1)), fun p hp => k _ _ _ _ _ f1 (r1.push hp ra) r1.len s1⟩
  | tup m =>
    cases el
    obtain ⟨a, xs, rfl, h1, ra⟩ := q
    exact ⟨a, xs, rfl, .inr (same_sqT r1.gh h1), fun p hp => k _ _ _ _ _ f1 (r1.push hp ra) r1.len s1⟩
  | _ => cases el

/-! ### comprehensions -/
def wipeE (ρ : Ev) : List Nat → Ev
  | [] => ρ
  | v :: vs => (wipeE ρ vs).set v .no
def okVs (ρ : Ev) : List Nat → Prop
  | [] => True
  | v :: vs => (match ρ[v]? with | some .no => True | some (.val _) => True | _ => False) ∧ okVs ρ vs
theorem okVs_at {ρ : Ev} : ∀ {vs : List Nat} {j : Nat} {s : Sl}, okVs ρ vs → j ∈ vs → ρ[j]? = some s → s = .no ∨ ∃ d, s = .val d
  | v :: vs, j, s, h, hm, e => by
    rcases List.mem_cons.mp hm with rfl | hm
    · have q := h.1
      rw [e] at q
      cases s with
      | no => exact .inl rfl
      | val d => exact .inr ⟨d, rfl⟩
      | _ => exact q.elim
    · exact okVs_at h.2 hm e
theorem wipeE_length (ρ : Ev) : ∀ vs : List Nat, (wipeE ρ vs).length = ρ.length
  | [] => rfl
  | v :: vs => by unfold wipeE; rw [List.length_set, wipeE_length ρ vs]
theorem like_wipeE (vs : List Nat) (ρ : Ev) : Like vs ρ (wipeE ρ vs) := by
  refine ⟨wipeE_length ρ vs, fun j h => ?_⟩
  induction vs with
  | nil => rfl
  | cons v vs ih =>
    unfold wipeE
    rw [List.getElem?_set_ne fun z => h (by rw [z]; exact List.mem_cons_self)]
    exact ih fun z => h (List.mem_cons_of_mem _ z)
theorem Rep.wiped {c : Ct} {σ : L2.St} {H G : Hp} {ρ : Ev} (r : Rep K c σ H G ρ) : ∀ vs : List Nat, Rep K c (wipe σ vs) H G (wipeE ρ vs)
  | [] => r
  | v :: vs => (Rep.wiped r vs).putNo
theorem Rep.unwipe {c0 c : Ct} {σ σ1 : L2.St} {H G H' G' : Hp} {ρ ρ1 : Ev} {vs : List Nat} (r : Rep K c0 σ H G ρ) (r1 : Rep K c σ1 H' G' ρ1) (l : Like vs σ σ1) (m : Like vs ρ ρ1) (ok : okVs ρ vs) (s : Same G G') : Rep K c σ H' G' ρ := by
  obtain ⟨fp, t1, t2, t3⟩ := r.sl
  obtain ⟨fp', u1, u2, u3⟩ := r1.sl
  refine ⟨r.len, r1.gh, r1.g0, r1.fr, r1.hk, r1.nw, r1.h0, fun j => if j ∈ vs then [] else fp' j, fun j sl hj => ?_, fun j a hj ha => ?_, fun j k a hj hk ha hb => ?_⟩
  · dsimp only
    by_cases h : j ∈ vs
    · rw [if_pos h]
      rcases okVs_at ok h hj with rfl | ⟨d, rfl⟩
      · exact rfl
      · obtain ⟨_, v, ev, q⟩ := t1 j _ hj
        exact ⟨rfl, v, ev, q.mono s⟩
    · rw [if_neg h, ← l.2 j h]
      exact u1 j sl (by rw [m.2 j h]; exact hj)
  · dsimp only at ha
    by_cases h : j ∈ vs
    · rw [if_pos h] at ha
      cases ha
    · rw [if_neg h] at ha
      obtain ⟨g, q⟩ := u2 j a (by rw [m.1]; exact hj) ha
      refine ⟨g, q.imp id fun ⟨q1, x, y, q2⟩ => ⟨q1, x, y, ?_⟩⟩
      rw [← m.2 j h]
      exact q2
  · dsimp only at ha hb
    by_cases h1 : j ∈ vs
    · rw [if_pos h1] at ha
      cases ha
    · by_cases h2 : k ∈ vs
      · rw [if_pos h2] at hb
        cases hb
      · rw [if_neg h1] at ha
        rw [if_neg h2] at hb
        exact u3 j k a (by rw [m.1]; exact hj) (by rw [m.1]; exact hk) ha hb
def noR : RK := fun _ _ => False
theorem LX.no {c : Ct} {σ : L2.St} {G : Hp} : LX K W c σ G noR := fun _ _ _ _ _ _ h => h.elim
abbrev PDTs (K : PySem.W.Frag) (W : WX) (X : Cx) (es : List Expr) (F : DT) : Prop := PTs X es (LT K W F)
def yesT : DT := fun ρ P _ => P true ρ
theorem pdts_nil : PDTs K W X [] yesT := ⟨fun pins s σ H Q I ⟨c, G, ρ, P, R, r, f, k, _⟩ => pts_nil.run pins s σ H Q I (k _ _ _ _ f r (Same.refl _))⟩
theorem pdts_one {e : Expr} {F : DT} (h : PDT K W X e F) : PDTs K W X [e] F := pts_one h
/-- one by one: the list so far -/
def cmpD (Fg : DG) (Ft : DT) (Fe : DE) (vs : List Nat) (ρ : Ev) : List D → List D → (List D → Prop) → Prop
  | [], acc, Q => Q acc
  | d :: ds, acc, Q => Fg d (wipeE ρ vs) fun ρ1 => Ft ρ1 (fun b ρ2 => ρ2 = ρ1 ∧ if b = true then Fe ρ1 (fun x ρ3 => ρ3 = ρ1 ∧ acc.length < sizeLine ∧ cmpD Fg Ft Fe vs ρ ds (acc ++ [x]) Q) noR else cmpD Fg Ft Fe vs ρ ds acc Q) noR
def compF (Fi : DI) (Fg : DG) (Ft : DT) (Fe : DE) (vs : List Nat) : DA := fun ρ P R => Fi ρ (fun l ρ1 => okVs ρ1 vs ∧ cmpD Fg Ft Fe vs ρ1 l [] fun acc => P acc ρ1) R
theorem LF.comp {Fi : DI} {Fg : DG} {Ft : DT} {Fe : DE} {vs : List Nat} {t : TG} {σ : L2.St} {H : Hp} {Q : VK} {W' : WX} (ht : TgOk K t Fg vs) (h : LF K W (compF Fi Fg Ft Fe vs) σ H Q) : tLc (LI K W Fi) t (LT K W' Ft) (LE K W' Fe) vs σ H Q := by
  obtain ⟨c, G, ρ, P, R, r, f, k, kx⟩ := h
  refine ⟨c, G, ρ, _, R, r, f, fun l ρ1 J H1 G1 f1 r1 s1 w1 A hA => ?_, kx⟩
  obtain ⟨ok, f1⟩ := f1
  refine ⟨fun i m H' => ∃ G' acc, m = l.length - i ∧ i ≤ l.length ∧ cmpD Fg Ft Fe vs ρ1 (l.drop i) acc (fun acc => P acc ρ1) ∧ Rep K c (σ ++ [some (.ref A)]) H' G' (ρ1 ++ [.own acc]) ∧ Same G1 G', ⟨_, G1, [], rfl, Nat.zero_le _, f1, r1.push hA RpAll.nil, Same.refl _⟩, ?_⟩
  rintro i m H' ⟨G', acc, rfl, hi, f', r', s'⟩
  obtain ⟨w2, w3⟩ := w1 i H' G' s' r'.gh
  by_cases hl : i < l.length
  · obtain ⟨hgo, hy⟩ := w2 l[i] (List.getElem?_eq_getElem hl)
    rw [List.drop_eq_getElem_cons hl] at f'
    refine .inr ⟨hgo, fun H'' => ∃ G'' acc'', cmpD Fg Ft Fe vs ρ1 (l.drop (i + 1)) acc'' (fun acc => P acc ρ1) ∧ Rep K c (σ ++ [some (.ref A)]) H'' G'' (ρ1 ++ [.own acc'']) ∧ Same G1 G'', fun H'' ⟨G'', acc'', f'', r'', s''⟩ => ⟨l.length - (i + 1), by omega, G'', acc'', rfl, hl, f'', r'', s''⟩, fun x H2 hx => ?_⟩
    obtain ⟨G2, ex, rp⟩ := hy x H2 hx
    obtain ⟨c', xs, ra, hA', rx, gA, back⟩ := (r'.ext ex).aside r1.len
    have sG2 := s'.trans ex.g
    refine ht.ok c' (wipe σ vs) H2 G2 (wipeE ρ1 vs) x _ _ _ (ra.wiped vs) rp f' fun ρ3 σ3 f3 r3 l3 m3 => ⟨?_, ?_⟩
    · rw [l3.wipe]
      exact (like_wipe vs σ).wipe
    refine ⟨c', G2, ρ3, _, noR, r3, f3, fun b ρ4 H4 G4 f4 r4 s4 => ?_, LX.no⟩
    obtain ⟨rfl, f4⟩ := f4
    have lk : Like vs σ σ3 := (like_wipe vs σ).trans l3
    have mk : Like vs ρ1 ρ4 := (like_wipeE vs ρ1).trans m3
    cases b with
    | false =>
      rw [if_neg Bool.false_ne_true]
      have rr := ra.unwipe r4 lk mk ok s4
      exact ⟨G4, acc, f4, back σ ρ1 H4 G4 rfl rr s4, sG2.trans s4⟩
    | true =>
      rw [if_pos rfl]
      refine ⟨c', G4, ρ4, _, noR, r4, f4, fun y ρ5 v H5 G5 f5 r5 s5 q5 => ?_, LX.no⟩
      obtain ⟨rfl, hz, f5⟩ := f5
      have s45 := s4.trans s5
      have rr := ra.unwipe r5 lk mk ok s45
      have rb := back σ ρ1 H5 G5 rfl rr s45
      have hlast : (ρ1 ++ [Sl.own acc])[ρ1.length]? = some (.own acc) := by rw [List.getElem?_append_right (Nat.le_refl _), Nat.sub_self]; rfl
      obtain ⟨a, ys, eσ, eh, rya, ga, wr, _, _⟩ := rb.ownL hlast
      have ea : a = A := by
        rw [List.getElem?_append_right (by rw [r1.len]; exact Nat.le_refl _), r1.len, Nat.sub_self] at eσ
        exact (V.ref.inj (Option.some.inj (Option.some.inj eσ))).symm
      subst ea
      refine ⟨ys, eh, by rw [rya.len]; exact hz, G5, acc ++ [y], f5, ?_, sG2.trans s45⟩
      have q := wr (ys ++ [v]) (acc ++ [y]) (rya.snoc q5)
      have e1 : (ρ1 ++ [Sl.own acc]).set ρ1.length (.own (acc ++ [y])) = ρ1 ++ [.own (acc ++ [y])] := by
        rw [List.set_append_right _ _ (Nat.le_refl _), Nat.sub_self]
        rfl
      rw [e1] at q
      exact q
  · have e1 : i = l.length := by omega
    rw [List.drop_eq_nil_of_le (by omega)] at f'
    exact .inl ⟨w3 (by omega), k _ _ _ _ _ f' r' r1.len (s1.trans s')⟩
theorem pf_lc {elt tg iter : Expr} {ifs : List Expr} {scope : Scope} {own : List (Str × Nat)} {pos : Pos} {Fi : DI} {t : TG} {Fg : DG} {Ft : DT} {Fe : DE} {W' : WX} (hN : X.N.Nodup) (hi : PDI K W X tg iter Fi) (ok : BlkOk X.N X.env.scope scope own)
    (hg : ∀ (s : Shared) (H : Hp) (C : Addr) (cl : List (Str × Addr)) (fp : List Addr), PG (X.blk s H scope (compEnvC scope cl C X.env) fp) tg t) (ht : TgOk K t Fg (own.map (·.2)))
    (hf : ∀ (s : Shared) (H : Hp) (C : Addr) (cl : List (Str × Addr)) (fp : List Addr), PDTs K W' (X.blk s H scope (compEnvC scope cl C X.env) fp) ifs Ft)
    (he : ∀ (s : Shared) (H : Hp) (C : Addr) (cl : List (Str × Addr)) (fp : List Addr), PD K W' (X.blk s H scope (compEnvC scope cl C X.env) fp) elt Fe) (hc : X.calm = true := by rfl) (hs : ∀ x, foldedSetIterable iter X.env x = pure x := by intro _; rfl) :
    PF K W X (.ListComp elt [⟨tg, iter, ifs, 0⟩] scope pos) (compF Fi Fg Ft Fe (own.map (·.2))) :=
  PE.imp (pe_lc hc hN hi ok hg hf he hs) fun _ _ _ h => LF.comp ht h
/-- name = [..] -/
theorem pds_setLc {i : Nat} {y : Str} {py : Pos} {elt tg iter : Expr} {ifs : List Expr} {scope : Scope} {own : List (Str × Nat)} {pos spos : Pos} {Fi : DI} {t : TG} {Fg : DG} {Ft : DT} {Fe : DE} {W' : WX} (hN : X.N.Nodup) (hi : PDI K W X tg iter Fi) (ok : BlkOk X.N X.env.scope scope own)
    (hg : ∀ (s : Shared) (H : Hp) (C : Addr) (cl : List (Str × Addr)) (fp : List Addr), PG (X.blk s H scope (compEnvC scope cl C X.env) fp) tg t) (ht : TgOk K t Fg (own.map (·.2)))
    (hf : ∀ (s : Shared) (H : Hp) (C : Addr) (cl : List (Str × Addr)) (fp : List Addr), PDTs K W' (X.blk s H scope (compEnvC scope cl C X.env) fp) ifs Ft)
    (he : ∀ (s : Shared) (H : Hp) (C : Addr) (cl : List (Str × Addr)) (fp : List Addr), PD K W' (X.blk s H scope (compEnvC scope cl C X.env) fp) elt Fe)
    (hy : X.N[i]? = some y := by rfl) (hyl : X.env.scope.names.lookup y = some .local := by rfl) (hsw : swapsWith (.ListComp elt [⟨tg, iter, ifs, 0⟩] scope pos) (some (.Name y py)) spos.line X.env = pure true := by exact sw_true rfl rfl rfl (by decide +kernel)) (hc : X.calm = true := by rfl) (hs : ∀ x, foldedSetIterable iter X.env x = pure x := by intro _; rfl) :
    PDS K W X (.Assign [.Name y py] (.ListComp elt [⟨tg, iter, ifs, 0⟩] scope pos) spos) (setS i (lstF (compF Fi Fg Ft Fe (own.map (·.2))))) :=
  PS.imp (ps_setLc hc hN hy hyl hsw hi ok hg hf he hs) fun D σ H h => LF.comp ht ((setS_go h).fr)
theorem pds_ownLc {i : Nat} {y : Str} {py : Pos} {elt tg iter : Expr} {ifs : List Expr} {scope : Scope} {own : List (Str × Nat)} {pos spos : Pos} {Fi : DI} {t : TG} {Fg : DG} {Ft : DT} {Fe : DE} {W' : WX} (hN : X.N.Nodup) (hi : PDI K W X tg iter Fi) (ok : BlkOk X.N X.env.scope scope own)
    (hg : ∀ (s : Shared) (H : Hp) (C : Addr) (cl : List (Str × Addr)) (fp : List Addr), PG (X.blk s H scope (compEnvC scope cl C X.env) fp) tg t) (ht : TgOk K t Fg (own.map (·.2)))
    (hf : ∀ (s : Shared) (H : Hp) (C : Addr) (cl : List (Str × Addr)) (fp : List Addr), PDTs K W' (X.blk s H scope (compEnvC scope cl C X.env) fp) ifs Ft)
    (he : ∀ (s : Shared) (H : Hp) (C : Addr) (cl : List (Str × Addr)) (fp : List Addr), PD K W' (X.blk s H scope (compEnvC scope cl C X.env) fp) elt Fe)
    (hy : X.N[i]? = some y := by rfl) (hyl : X.env.scope.names.lookup y = some .local := by rfl) (hsw : swapsWith (.ListComp elt [⟨tg, iter, ifs, 0⟩] scope pos) (some (.Name y py)) spos.line X.env = pure true := by exact sw_true rfl rfl rfl (by decide +kernel)) (hc : X.calm = true := by rfl) (hs : ∀ x, foldedSetIterable iter X.env x = pure x := by intro _; rfl) :
    PDS K W X (.Assign [.Name y py] (.ListComp elt [⟨tg, iter, ifs, 0⟩] scope pos) spos) (ownS i (compF Fi Fg Ft Fe (own.map (·.2)))) :=
  PS.imp (ps_setLc hc hN hy hyl hsw hi ok hg hf he hs) fun D σ H h => LF.comp ht (ownS_go h)
/-- a comprehension whose turns are plain: every thing gives f of it -/
theorem cmpD_pure {Fg : DG} {Ft : DT} {Fe : DE} {vs : List Nat} {ρ : Ev} (f : D → Option D) {Q : List D → Prop} : ∀ {l acc : List D}, acc.length + l.length ≤ 1000000 →
    (∀ d ∈ l, ∀ (T : Option D → Prop), T (f d) → Fg d (wipeE ρ vs) fun ρ1 => Ft ρ1 (fun b ρ2 => ρ2 = ρ1 ∧ if b = true then Fe ρ1 (fun x ρ3 => ρ3 = ρ1 ∧ T (some x)) noR else T none) noR) → Q (acc ++ l.filterMap f) → cmpD Fg Ft Fe vs ρ l acc Q
  | [], acc, _, _, q => by
    rw [List.filterMap_nil, List.append_nil] at q
    exact q
  | d :: ds, acc, hz, h, q => by
    rw [List.length_cons] at hz
    have hl : acc.length < sizeLine := Nat.lt_of_le_of_lt (show acc.length ≤ 1000000 by omega) (by decide)
    have hd := h d List.mem_cons_self (fun o => match o with
      | some x => acc.length < sizeLine ∧ cmpD Fg Ft Fe vs ρ ds (acc ++ [x]) Q
      | none => cmpD Fg Ft Fe vs ρ ds acc Q)
    refine hd ?_
    cases e : f d with
    | none =>
      rw [List.filterMap_cons_none e] at q
      exact cmpD_pure f (by omega) (fun d' hd' => h d' (List.mem_cons_of_mem _ hd')) q
    | some x =>
      rw [List.filterMap_cons_some e] at q
      refine ⟨hl, cmpD_pure f (by rw [List.length_append]; show acc.length + 1 + ds.length ≤ _; omega) (fun d' hd' => h d' (List.mem_cons_of_mem _ hd')) ?_⟩
      rw [List.append_assoc]
      exact q
end
end Vf

set_option Elab.async false
set_option linter.all false
set_option maxRecDepth 100000
set_option maxHeartbeats 1000000
/-! the data layer: what defs promise, calls -/
namespace Vf
open PySem PySem.Spec PyProof.Rows L2
/-- what a def does with data: what it hands back, what it raises -/
abbrev Mc := List D → (D → Prop) → (Xd → Prop) → Prop
def spD (K : PySem.W.Frag) (n : Nat) (M : Mc) : Sp := fun vs H Q E => ∃ G ds P R, Same G H ∧ RpAll K G vs ds ∧ ds.length = n ∧ M ds P R ∧ (∀ d v H' G', P d → Ext H G H' G' → Rp K G' v d → Q v H') ∧
  (∀ x e v H' G', R x → Ext H G H' G' → Rp K G' v x.d → H' e = none → E (.ref x.c) (some e) (upd H' e (.xd [(x.f, v)])))
/-- only the dealer at p and its cells at c change -/
structure ExtD (p c : Addr) (H G H' G' : Hp) : Prop where
  h : ∀ a o, a ≠ p → a ≠ c → H a = some o → H' a = some o
  g : Same G G'
  gh : Same G' H'
  nw : ∀ a, G' a ≠ none → G a ≠ none ∨ H a = none
/-- what a def does with data and draws -/
abbrev Md := List D → (D → Prop) → Prop
def spDl (K : PySem.W.Frag) (n : Nat) (M : Md) : Sp := fun vs H Q _ => ∃ G p c us ds P, vs = .ref p :: us ∧ DealAt H p c ∧ G p = none ∧ G c = none ∧ Same G H ∧ RpAll K G us ds ∧ ds.length = n ∧ M ds P ∧
  ∀ d v H' G', P d → DealAt H' p c → ExtD p c H G H' G' → Rp K G' v d → Q v H'
section
variable {K : PySem.W.Frag} {c : Ct} {σ : L2.St} {H G H' G' : Hp} {ρ : Ev}
/-- the start of a def's body -/
theorem Rep.begin {vs : List V} {ds : List D} {N : List Str} (s : Same G H) (r : RpAll K G vs ds) : Rep K ⟨H, G, fun _ => False⟩ (L2.start N vs) H G (ds.map Sl.val ++ List.replicate (N.length - ds.length) .no) := by
  have hl := r.len
  refine ⟨?_, s, Same.refl _, fun _ _ _ h => h, fun _ h => h.elim, fun _ h => .inl h, fun _ h => h, fun _ => [], fun i sl hi => ?_, fun _ _ _ h => (nomatch h), fun _ _ _ _ _ h => (nomatch h)⟩
  · unfold L2.start
    rw [List.length_append, List.length_append, List.length_map, List.length_map, List.length_replicate, List.length_replicate, hl]
  · unfold L2.start
    by_cases h : i < ds.length
    · rw [List.getElem?_append_left (by rw [List.length_map]; exact h), List.getElem?_map] at hi
      rw [List.getElem?_append_left (by rw [List.length_map, hl]; exact h), List.getElem?_map]
      rw [List.getElem?_eq_getElem h] at hi
      cases hi
      obtain ⟨v, ev, q⟩ := r.at (List.getElem?_eq_getElem h)
      rw [ev]
      exact ⟨rfl, v, rfl, q⟩
    · rw [List.getElem?_append_right (by rw [List.length_map]; omega)] at hi
      have e := List.eq_of_mem_replicate (List.mem_of_getElem? hi)
      subst e
      exact rfl
theorem Rep.done (r : Rep K ⟨H, G, fun _ => False⟩ σ H' G' ρ) : Ext H G H' G' := ⟨fun a o e => r.fr a o (fun z => z) e, r.g0, r.gh, r.nw⟩
theorem Rep.beginD {p q : Addr} {vs : List V} {ds : List D} {N : List Str} (s : Same G H) (r : RpAll K G vs ds) (D : DealAt H p q) (np : G p = none) (nq : G q = none) :
    Rep K ⟨H, G, fun a => a = p ∨ a = q⟩ (L2.start N (.ref p :: vs)) H G (.deal p q :: (ds.map Sl.val ++ List.replicate (N.length - (ds.length + 1)) .no)) := by
  have hl := r.len
  have hD : H p ≠ none ∧ H q ≠ none := by
    obtain ⟨bs, st, h1, h2, _⟩ := D
    rw [h1, h2]
    exact ⟨fun z => (by cases z), fun z => (by cases z)⟩
  refine ⟨?_, s, Same.refl _, fun _ _ _ h => h, fun a h => ?_, fun _ h => .inl h, fun _ h => h, fun i => if i = 0 then [p, q] else [], fun i sl hi => ?_, fun i a hi ha => ?_, fun i j a hi hj ha hb => ?_⟩
  · unfold L2.start
    rw [List.length_cons, List.length_append, List.length_append, List.length_map, List.length_map, List.length_replicate, List.length_replicate, List.length_cons, hl]
    omega
  · rcases h with rfl | rfl
    · exact hD.1
    · exact hD.2
  · unfold L2.start
    dsimp only
    cases i with
    | zero =>
      cases hi
      exact ⟨rfl, rfl, D⟩
    | succ i =>
      rw [if_neg (by omega), List.map_cons, List.cons_append, List.getElem?_cons_succ]
      rw [List.getElem?_cons_succ] at hi
      by_cases h : i < ds.length
      · rw [List.getElem?_append_left (by rw [List.length_map]; exact h), List.getElem?_map] at hi
        rw [List.getElem?_append_left (by rw [List.length_map, hl]; exact h), List.getElem?_map]
        rw [List.getElem?_eq_getElem h] at hi
        cases hi
        obtain ⟨v, ev, q⟩ := r.at (List.getElem?_eq_getElem h)
        rw [ev]
        exact ⟨rfl, v, rfl, q⟩
      · rw [List.getElem?_append_right (by rw [List.length_map]; omega)] at hi
        have e := List.eq_of_mem_replicate (List.mem_of_getElem? hi)
        subst e
        exact rfl
  · dsimp only at ha
    by_cases z : i = 0
    · rw [if_pos z] at ha
      subst z
      rcases List.mem_cons.mp ha with rfl | ha
      · exact ⟨np, .inr ⟨.inl rfl, a, q, rfl⟩⟩
      · rw [List.mem_singleton.mp ha]
        exact ⟨nq, .inr ⟨.inr rfl, p, q, rfl⟩⟩
    · rw [if_neg z] at ha
      cases ha
  · dsimp only at ha hb
    by_cases z : i = 0
    · by_cases y : j = 0
      · rw [z, y]
      · rw [if_neg y] at hb
        cases hb
    · rw [if_neg z] at ha
      cases ha
/-- what a dealer's slot tells -/
theorem Rep.dealt {i : Nat} {p q : Addr} (r : Rep K c σ H G ρ) (h : ρ[i]? = some (.deal p q)) : σ[i]? = some (some (.ref p)) ∧ DealAt H p q ∧ G p = none ∧ G q = none := by
  obtain ⟨fp, s1, s2, s3⟩ := r.sl
  obtain ⟨ef, ev, D⟩ := s1 i _ h
  have hi := lt_of_at h
  refine ⟨?_, D, (s2 i p hi (by rw [ef]; simp)).1, (s2 i q hi (by rw [ef]; simp)).1⟩
  cases z : σ[i]? with
  | none =>
    rw [z] at ev
    cases ev
  | some o =>
    rw [z] at ev
    exact congrArg some ev
theorem Rep.doneD {p q : Addr} (r : Rep K ⟨H, G, fun a => a = p ∨ a = q⟩ σ H' G' ρ) : ExtD p q H G H' G' := ⟨fun a o h1 h2 e => r.fr a o (fun z => z.elim h1 h2) e, r.g0, r.gh, r.nw⟩
/-- a draw leaves the slots as they are -/
theorem Rep.extD {i : Nat} {p q : Addr} (r : Rep K c σ H G ρ) (h : ρ[i]? = some (.deal p q)) (e : ExtD p q H G H' G') (D : DealAt H' p q) : Rep K c σ H' G' ρ := by
  obtain ⟨fp, s1, s2, s3⟩ := r.sl
  have hi := lt_of_at h
  obtain ⟨ef, ev, D0⟩ := s1 i _ h
  have hpm : p ∈ fp i := by rw [ef]; simp
  have hqm : q ∈ fp i := by rw [ef]; simp
  have tp := (s1 i _ h).there p hpm
  have tq := (s1 i _ h).there q hqm
  have D2 : H' p ≠ none ∧ H' q ≠ none := by
    obtain ⟨bs, st, h1, h2, _⟩ := D
    rw [h1, h2]
    exact ⟨fun z => (by cases z), fun z => (by cases z)⟩
  have keep : ∀ a, H a ≠ none → H' a ≠ none := fun a ha => by
    by_cases z1 : a = p
    · rw [z1]; exact D2.1
    · by_cases z2 : a = q
      · rw [z2]; exact D2.2
      · cases y : H a with
        | none => exact absurd y ha
        | some o =>
          rw [e.h a o z1 z2 y]
          exact fun z => nomatch z
  have gk : ∀ a, a ∈ fp i → ¬ c.hid a → c.H0 a = none := fun a ha nh => by
    rcases (s2 i a hi ha).2 with z | ⟨z, _⟩
    · exact z
    · exact absurd z nh
  refine ⟨r.len, e.gh, r.g0.trans e.g, fun a o n ha => ?_, fun a ha => keep a (r.hk a ha), fun a ha => (e.nw a ha).elim (r.nw a) fun z => .inr (r.h0 a z), fun a ha => ?_, fp, fun j s hj => ?_, fun j a hj ha => ⟨?_, (s2 j a hj ha).2⟩, s3⟩
  · refine e.h a o (fun z => ?_) (fun z => ?_) (r.fr a o n ha)
    · subst z
      rw [gk a hpm n] at ha
      cases ha
    · subst z
      rw [gk a hqm n] at ha
      cases ha
  · cases y : H a with
    | none => exact r.h0 a y
    | some o => exact absurd ha (keep a (by rw [y]; exact fun z => nomatch z))
  · by_cases z : j = i
    · subst z
      rw [h] at hj
      cases hj
      exact ⟨ef, ev, D⟩
    · have hj' := lt_of_at hj
      have hx := s1 j s hj
      refine hx.mono (fun a ha => ?_) e.g
      have n1 : a ≠ p := fun y => z (s3 j i a hj' hi ha (by rw [y]; exact hpm))
      have n2 : a ≠ q := fun y => z (s3 j i a hj' hi ha (by rw [y]; exact hqm))
      cases y : H a with
      | none => exact absurd y (hx.there a ha)
      | some o => exact e.h a o n1 n2 y
  · cases y : G' a with
    | none => rfl
    | some o =>
      rcases e.nw a (by rw [y]; exact fun z => nomatch z) with z | z
      · exact absurd (s2 j a hj ha).1 z
      · exact absurd z ((s1 j _ (List.getElem?_eq_getElem hj)).there a ha)
/-- a new dealer goes to a slot -/
theorem Rep.putDeal {i : Nat} {p q : Addr} (r : Rep K c σ H G ρ) (s : Same H H') (np : H p = none) (nq : H q = none) (D : DealAt H' p q) : Rep K c (σ.set i (some (.ref p))) H' G (ρ.set i (.deal p q)) := by
  have r' := r.ext (Ext.tmp r.gh s)
  obtain ⟨fp, s1, s2, s3⟩ := r.sl
  refine r'.put (fpi := [p, q]) ⟨rfl, rfl, D⟩ (fun a ha => ?_) fun fp' t1 j a hj hn ha hm => ?_
  · rcases List.mem_cons.mp ha with rfl | ha
    · exact ⟨r.gh.free np, .inl (r.h0 _ np)⟩
    · rw [List.mem_singleton.mp ha]
      exact ⟨r.gh.free nq, .inl (r.h0 _ nq)⟩
  · have key : ∀ b, H b = none → b ∉ fp' j := fun b nb hb => by
      have q := t1 j _ (List.getElem?_eq_getElem hj)
      have q' := s1 j _ (List.getElem?_eq_getElem hj)
      generalize ρ[j] = t at q q'
      cases t with
      | no =>
        rw [show fp' j = [] from q] at hb
        cases hb
      | val d =>
        rw [q.1] at hb
        cases hb
      | own l =>
        obtain ⟨x, xs, e, eo, _⟩ := q
        obtain ⟨y, ys, e', eo', eh, _⟩ := q'
        rw [eo] at eo'
        rw [e, List.mem_singleton] at hb
        rw [← V.ref.inj (Option.some.inj eo'), ← hb, nb] at eh
        cases eh
      | ownK ks ds =>
        obtain ⟨x, xs, e, eo, _⟩ := q
        obtain ⟨y, ys, e', eo', eh, _⟩ := q'
        rw [eo] at eo'
        rw [e, List.mem_singleton] at hb
        rw [← V.ref.inj (Option.some.inj eo'), ← hb, nb] at eh
        cases eh
      | ownT ks ds =>
        obtain ⟨x, xs, e, eo, _⟩ := q
        obtain ⟨y, ys, e', eo', eh, _⟩ := q'
        rw [eo] at eo'
        rw [e, List.mem_singleton] at hb
        rw [← V.ref.inj (Option.some.inj eo'), ← hb, nb] at eh
        cases eh
      | ownI x dx C ns ds =>
        obtain ⟨us, e, eo, _⟩ := q
        obtain ⟨ys, e', eo', eh, _⟩ := q'
        rw [eo] at eo'
        rw [e, List.mem_singleton] at hb
        rw [← V.ref.inj (Option.some.inj eo'), ← hb, nb] at eh
        cases eh
      | deal x y =>
        rw [q.1] at hb
        obtain ⟨_, _, bs, st, h1, h2, _⟩ := q'
        rcases List.mem_cons.mp hb with z | z
        · rw [← z, nb] at h1
          cases h1
        · rw [← List.mem_singleton.mp z, nb] at h2
          cases h2
    rcases List.mem_cons.mp hm with rfl | hm
    · exact key _ np ha
    · rw [List.mem_singleton.mp hm] at ha
      exact key _ nq ha
end
section
variable {P : Program} {w : World} {K : PySem.W.Frag} {mg : Str → Option Value} {base : Heap}
def evOf (ds : List D) (N : List Str) : Ev := ds.map Sl.val ++ List.replicate (N.length - ds.length) .no
def endOf (P : D → Prop) (R : Xd → Prop) : De := { nx := fun _ => P .non, rt := fun d _ => P d, bk := fun _ => False, ct := fun _ => False, rz := fun x _ => R x }
theorem body_go {st : List Stmt} {X : Cx} {N : List Str} {n : Nat} {M : Mc} {Fb : DS} {E : XK} {vs : List V} {H : Hp} {Q : VK} (h : PDSs K (fun cls d _ H => E cls d H) X st Fb) (hb : ∀ ds P R, ds.length = n → M ds P R → Fb (evOf ds N) (endOf P R)) (sp : spD K n M vs H Q E) :
    ∃ t, PSs X st t ∧ t { nx := fun _ H' => Q .non H', rt := Q } (L2.start N vs) H := by
  obtain ⟨G, ds, P', R, sg, ra, hl, m, k, kx⟩ := sp
  refine ⟨_, h, ⟨H, G, fun _ => False⟩, G, _, _, Rep.begin sg ra, hb ds P' R hl m, ⟨fun ρ' σ' H' G' f r s => k .non .non _ _ f r.done rfl, fun d ρ' σ' v H' G' f r s q => k _ _ _ _ f r.done q, fun ρ' σ' H' G' f r s => f.elim, fun ρ' σ' H' G' f r s => f.elim, fun σ' x ρ' e v H' G' f r s q n => kx _ _ _ _ _ f r.done q n⟩⟩
/-- a def that lets nothing out -/
theorem okD {x qual : Str} {st : Stmt} {f : Addr} {fd : FuncData} {N ps : List Str} {k n : Nat} {M : Mc} (F : Fun K x qual st f fd) (S : FnScope N ps (defScope st)) (hn : n = ps.length)
    (hbody : ∀ (cdv : Value) (A : Around) (outer : List Env) (s : Shared) (H : Hp) (E : XK), Room k (A.deeper (envOfC qual (defScope st) s.heap.objs.size f cdv)) →
      ∃ Fb, PDSs K (fun cls d _ H => E cls d H) (cxOf CX0 P w K mg base N qual (defScope st) f cdv A outer s H E).nox (defBody st) Fb ∧ ∀ ds P R, ds.length = n → M ds P R → Fb (evOf ds N) (endOf P R)) : FnOk P w K mg base CX0 (k + 1) f fd ps (spD K n M) := by
  refine F.ok S (fun vs H Q E ⟨G, ds, P, R, sg, ra, hl, _⟩ => by rw [ra.len, hl, hn]) fun cdv A outer s H vs Q E hr h => ?_
  obtain ⟨Fb, h1, h2⟩ := hbody cdv A outer s H E hr
  exact body_go h1 h2 h
/-- .. under no repr -/
theorem okDG {x qual : Str} {st : Stmt} {f : Addr} {fd : FuncData} {N ps : List Str} {k n : Nat} {M : Mc} (F : Fun K x qual st f fd) (S : FnScope N ps (defScope st)) (hn : n = ps.length)
    (hbody : ∀ (cdv : Value) (A : Around) (outer : List Env) (s : Shared) (H : Hp) (E : XK), Room k (A.deeper (envOfC qual (defScope st) s.heap.objs.size f cdv)) → A.guards = some [] →
      ∃ Fb, PDSs K (fun cls d _ H => E cls d H) (cxOf CX0 P w K mg base N qual (defScope st) f cdv A outer s H E).nox (defBody st) Fb ∧ ∀ ds P R, ds.length = n → M ds P R → Fb (evOf ds N) (endOf P R)) : FnG P w K mg base (k + 1) f fd ps (spD K n M) := by
  refine okG F S (fun vs H Q E ⟨G, ds, P, R, sg, ra, hl, _⟩ => by rw [ra.len, hl, hn]) fun cdv A outer s H vs Q E hr hg h => ?_
  obtain ⟨Fb, h1, h2⟩ := hbody cdv A outer s H E hr hg
  exact body_go h1 h2 h
/-- a def that may raise -/
theorem okX {x qual : Str} {st : Stmt} {f : Addr} {fd : FuncData} {N ps : List Str} {k n : Nat} {M : Mc} (F : Fun K x qual st f fd) (S : FnScope N ps (defScope st)) (hn : n = ps.length)
    (hbody : ∀ (cdv : Value) (A : Around) (outer : List Env) (s : Shared) (H : Hp) (E : XK), Room k (A.deeper (envOfC qual (defScope st) s.heap.objs.size f cdv)) →
      ∃ Fb, PDSs K (fun cls d _ H => E cls d H) (cxOf (L2.CX P w) P w K mg base N qual (defScope st) f cdv A outer s H E) (defBody st) Fb ∧ ∀ ds P R, ds.length = n → M ds P R → Fb (evOf ds N) (endOf P R)) : FnOk P w K mg base (L2.CX P w) (k + 1) f fd ps (spD K n M) := by
  refine F.okX S (fun vs H Q E ⟨G, ds, P, R, sg, ra, hl, _⟩ => by rw [ra.len, hl, hn]) fun cdv A outer s H vs Q E hr h => ?_
  obtain ⟨Fb, h1, h2⟩ := hbody cdv A outer s H E hr
  exact body_go h1 h2 h
def evDl (p c : Addr) (ds : List D) (N : List Str) : Ev := .deal p c :: (ds.map Sl.val ++ List.replicate (N.length - (ds.length + 1)) .no)
def endDl (p c : Addr) (P : D → Prop) : De := { nx := fun ρ => ρ[0]? = some (.deal p c) ∧ P .non, rt := fun d ρ => ρ[0]? = some (.deal p c) ∧ P d, bk := fun _ => False, ct := fun _ => False, rz := fun _ _ => False }
/-- a def whose first argument is the dealer -/
theorem okDl {x qual : Str} {st : Stmt} {f : Addr} {fd : FuncData} {N ps : List Str} {k n : Nat} {M : Md} (F : Fun K x qual st f fd) (S : FnScope N ps (defScope st)) (hn : n + 1 = ps.length)
    (hbody : ∀ (cdv : Value) (A : Around) (outer : List Env) (s : Shared) (H : Hp) (E : XK), Room k (A.deeper (envOfC qual (defScope st) s.heap.objs.size f cdv)) →
      ∃ Fb, PDSs K (fun cls d _ H => E cls d H) (cxOf CX0 P w K mg base N qual (defScope st) f cdv A outer s H E).nox (defBody st) Fb ∧ ∀ p c ds P, ds.length = n → M ds P → Fb (evDl p c ds N) (endDl p c P)) : FnOk P w K mg base CX0 (k + 1) f fd ps (spDl K n M) := by
  refine F.ok S (fun vs H Q E ⟨G, p, c, us, ds, P, e, _, _, _, sg, ra, hl, _⟩ => by rw [e, List.length_cons, ra.len, hl, hn]) fun cdv A outer s H vs Q E hr h => ?_
  obtain ⟨Fb, h1, h2⟩ := hbody cdv A outer s H E hr
  obtain ⟨G, p, c, us, ds, P', rfl, D, np, nc, sg, ra, hl, m, k⟩ := h
  refine ⟨_, h1, ⟨H, G, fun a => a = p ∨ a = c⟩, G, _, _, Rep.beginD sg ra D np nc, h2 p c ds P' hl m, ⟨fun ρ' σ' H' G' f r s => k .non .non _ _ f.2 (r.dealt f.1).2.1 r.doneD rfl, fun d ρ' σ' v H' G' f r s q => k _ _ _ _ f.2 (r.dealt f.1).2.1 r.doneD q, fun ρ' σ' H' G' f r s => f.elim, fun ρ' σ' H' G' f r s => f.elim, fun σ' x ρ' e v H' G' f r s q n => f.elim⟩⟩
end

/-! ### calls -/
section
variable {X : Cx} {K : PySem.W.Frag} {W : WX}
def noX : Xd → Prop := fun _ => False
def callD (M : Mc) (Fs : DA) : DE := fun ρ P R => Fs ρ (fun ds ρ1 => M ds (fun r => P r ρ1) noX) R
def callXD (M : Mc) (Fs : DA) : DE := fun ρ P R => Fs ρ (fun ds ρ1 => M ds (fun r => P r ρ1) fun x => R x ρ1) R
variable {k n : Nat} {f : Addr} {fd : FuncData} {ps : List Str} {M : Mc} {x : Str} {p pos : Pos} {e : Expr} {es : List Expr} {Fs : DA}
theorem callD_go {dvs : List V} {dd : List D} {σ : L2.St} {H : Hp} {Q : VK} (hd : ∀ G, RpAll K G dvs dd) (h : LE K W (callD (fun ds => M (ds ++ dd)) Fs) σ H Q) (hl : ∀ ds P R, M ds P R → ds.length = n) : tCall (spD K n M) dvs E0 (LA K W Fs) σ H Q := by
  obtain ⟨c, G, ρ, P, R, r, f, k, kx⟩ := h
  refine ⟨c, G, ρ, _, R, r, f, fun ds ρ1 vs H1 G1 f1 r1 s1 q1 => ?_, kx⟩
  exact ⟨G1, ds ++ dd, _, _, r1.gh, q1.app (hd G1), hl _ _ _ f1, f1, fun d v H' G' p ex rp => k _ _ _ _ _ p (r1.ext ex) (s1.trans ex.g) rp, fun _ _ _ _ _ z => z.elim⟩
/-- f(..): nothing is raised; dd: the defaults that fill up -/
theorem pd_callDf {ds : List Value} {dvs : List V} {dd : List D} (F : FnOk X.prog X.w X.K X.mg X.base CX0 k f fd ps (spD K n M)) (hr : Room k X.A) (hm : X.mg x = some (.ref f)) (hk : PySem.W.keepIn X.K (.ref f) = true) (hb : Binds X.K fd ps ds) (hd : Vals dvs ds) (hdd : ∀ G, RpAll K G dvs dd) (hl : ∀ ds P R, M ds P R → ds.length = n)
    (ha : PDA K W X (e :: es) Fs) (hg : Gl X x := by rfl) (hdb : (x == ("__debug__" : Str)) = false := by decide) (he : starEach (e :: es) X.env = (false, eval e X.env) :: starEach es X.env := by rfl) (hpl : (backTo pos (starEach es X.env)).any (·.1) = false := by rfl) :
    PD K W X (.Call (.Name x p) (e :: es) [] pos) (callD (fun ds => M (ds ++ dd)) Fs) := PE.imp (pe_call F hr hg hm hk hb hd pass0 ha hdb he hpl) fun _ _ _ h => callD_go hdd h hl
def lenM (n : Nat) (M : Mc) : Mc := fun ds P R => ds.length = n ∧ M ds P R
theorem callD_go0 {σ : L2.St} {H : Hp} {Q : VK} (h : LE K W (callD (lenM n M) Fs) σ H Q) : tCall (spD K n M) [] E0 (LA K W Fs) σ H Q := by
  obtain ⟨c, G, ρ, P, R, r, f, k, kx⟩ := h
  refine ⟨c, G, ρ, _, R, r, f, fun ds ρ1 vs H1 G1 f1 r1 s1 q1 => ?_, kx⟩
  refine ⟨G1, ds, _, _, r1.gh, by rw [List.append_nil]; exact q1, f1.1, f1.2, fun d v H' G' p ex rp => k _ _ _ _ _ p (r1.ext ex) (s1.trans ex.g) rp, fun _ _ _ _ _ z => z.elim⟩
theorem pd_call (F : FnOk X.prog X.w X.K X.mg X.base CX0 k f fd ps (spD K n M)) (hr : Room k X.A) (hm : X.mg x = some (.ref f)) (hk : PySem.W.keepIn X.K (.ref f) = true) (hb : Binds X.K fd ps [])
    (ha : PDA K W X (e :: es) Fs) (hg : Gl X x := by rfl) (hdb : (x == ("__debug__" : Str)) = false := by decide) (he : starEach (e :: es) X.env = (false, eval e X.env) :: starEach es X.env := by rfl) (hpl : (backTo pos (starEach es X.env)).any (·.1) = false := by rfl) :
    PD K W X (.Call (.Name x p) (e :: es) [] pos) (callD (lenM n M) Fs) := PE.imp (pe_call F hr hg hm hk hb .nil pass0 ha hdb he hpl) fun _ _ _ h => callD_go0 h
theorem pd_callG (F : FnG X.prog X.w X.K X.mg X.base k f fd ps (spD K n M)) (hgd : X.A.guards = some []) (hr : Room k X.A) (hm : X.mg x = some (.ref f)) (hk : PySem.W.keepIn X.K (.ref f) = true) (hb : Binds X.K fd ps [])
    (ha : PDA K W X (e :: es) Fs) (h : PE X (.Call (.Name x p) (e :: es) [] pos) (tCall (spD K n M) [] E0 (LA K W Fs))) :
    PD K W X (.Call (.Name x p) (e :: es) [] pos) (callD (lenM n M) Fs) := PE.imp h fun _ _ _ h => callD_go0 h
/-- f(..) that may raise -/
theorem pd_callX (tk : Takes X W) (F : FnOk X.prog X.w X.K X.mg X.base (L2.CX X.prog X.w) k f fd ps (spD K n M)) (hr : Room k X.A) (hm : X.mg x = some (.ref f)) (hk : PySem.W.keepIn X.K (.ref f) = true) (hb : Binds X.K fd ps [])
    (ha : PDA K W X (e :: es) Fs) (hg : Gl X x := by rfl) (hdb : (x == ("__debug__" : Str)) = false := by decide) (he : starEach (e :: es) X.env = (false, eval e X.env) :: starEach es X.env := by rfl) (hpl : (backTo pos (starEach es X.env)).any (·.1) = false := by rfl) :
    PD K W X (.Call (.Name x p) (e :: es) [] pos) (callXD (lenM n M) Fs) := by
  refine PE.imp (pe_callS F hr hg hm hk hb (fun σ => passAt tk σ) ha hdb he hpl) fun σ H Q ⟨c, G, ρ, P, R, r, f, k, kx⟩ => ?_
  refine ⟨c, G, ρ, _, R, r, f, fun ds ρ1 vs H1 G1 f1 r1 s1 q1 => ?_, kx⟩
  exact ⟨G1, ds, _, _, r1.gh, q1, f1.1, f1.2, fun d v H' G' p ex rp => k _ _ _ _ _ p (r1.ext ex) (s1.trans ex.g) rp, fun y e v H' G' z ex rp ne => kx _ _ _ _ _ _ z (r1.ext ex) (s1.trans ex.g) rp ne⟩
/-- f(dealer, ..) -/
def callDl (i : Nat) (n : Nat) (M : Md) (Fs : DA) : DE := fun ρ P R => ∃ p c, ρ[i]? = some (.deal p c) ∧ Fs ρ (fun ds ρ1 => ds.length = n ∧ ρ1[i]? = some (.deal p c) ∧ M ds fun r => P r ρ1) R
theorem pd_callDl {M : Md} {i : Nat} {y : Str} {py : Pos} (F : FnOk X.prog X.w X.K X.mg X.base CX0 k f fd ps (spDl K n M)) (hr : Room k X.A) (hm : X.mg x = some (.ref f)) (hk : PySem.W.keepIn X.K (.ref f) = true) (hb : Binds X.K fd ps [])
    (hv : PE X (.Name y py) (tVar i)) (ha : PDA K W X es Fs) (hg : Gl X x := by rfl) (hdb : (x == ("__debug__" : Str)) = false := by decide) (he : starEach (.Name y py :: es) X.env = (false, eval (.Name y py) X.env) :: starEach es X.env := by rfl) (hpl : (backTo pos (starEach es X.env)).any (·.1) = false := by rfl) :
    PD K W X (.Call (.Name x p) (.Name y py :: es) [] pos) (callDl i n M Fs) := by
  refine PE.imp (pe_call F hr hg hm hk hb .nil pass0 (pa_cons hv ha he) hdb he hpl) fun σ H Q ⟨c, G, ρ, P, R, r, ⟨p, q, e1, f⟩, k, kx⟩ => ?_
  obtain ⟨eσ, D, np, nq⟩ := r.dealt e1
  refine ⟨_, eσ, c, G, ρ, _, R, r, f, fun ds ρ1 vs H1 G1 f1 r1 s1 q1 => ?_, kx⟩
  obtain ⟨hl, e2, f1⟩ := f1
  obtain ⟨_, D1, np1, nq1⟩ := r1.dealt e2
  exact ⟨G1, p, q, vs, ds, _, by rw [List.append_nil], D1, np1, nq1, r1.gh, q1, hl, f1, fun d v H' G' p' D' ex rp => k _ _ _ _ _ p' (r1.extD e2 ex D') (s1.trans ex.g) rp⟩
end
end Vf

set_option Elab.async false
set_option linter.all false
set_option maxRecDepth 100000
set_option maxHeartbeats 1000000
/-! the data layer: what a slot owns, looked at and changed; objects -/
namespace Vf
open PySem PySem.Spec PyProof.Rows L2
section
variable {X : Cx} {K : PySem.W.Frag} {W : WX}
/-- a slot's data, as it stands -/
def peek : Sl → Option D
  | .val d => some d
  | .own l => some (.lst l)
  | .ownK ks ds => some (.dcK ks ds)
  | .ownT ks ds => some (.dcT ks ds)
  | _ => none
def pk (ρ : Ev) (i : Nat) : Option D := (ρ[i]?).bind peek
/-- a slot's value, for a moment as if it stayed -/
theorem Rep.peeked {c : Ct} {σ : L2.St} {H G : Hp} {ρ : Ev} {i : Nat} {d : D} (r : Rep K c σ H G ρ) (h : pk ρ i = some d) : ∃ v G', σ[i]? = some (some v) ∧ Same G G' ∧ Same G' H ∧ Rp K G' v d := by
  unfold pk at h
  cases e : ρ[i]? with
  | none => rw [e] at h; cases h
  | some s =>
    rw [e] at h
    cases s with
    | val d' =>
      cases h
      obtain ⟨v, ev, q⟩ := r.val e
      exact ⟨v, G, ev, Same.refl _, r.gh, q⟩
    | own l =>
      cases h
      obtain ⟨a, xs, ev, eh, ra, ga, wr, fz, sg⟩ := r.ownL e
      exact ⟨_, _, ev, sg, fz.gh, a, xs, rfl, upd_same, ra.mono sg⟩
    | ownK ks ds =>
      cases h
      obtain ⟨a, kvs, ev, eh, en, ra, ga, wr, fz, sg⟩ := r.ownDK e
      exact ⟨_, _, ev, sg, fz.gh, a, kvs, rfl, upd_same, en, ra.mono sg⟩
    | ownT ks ds =>
      cases h
      obtain ⟨a, kvs, ev, eh, en, ra, ga, wr, fz, sg⟩ := r.ownDT e
      exact ⟨_, _, ev, sg, fz.gh, a, kvs, rfl, upd_same, en, ra.mono sg⟩
    | _ => cases h
theorem flat_any {G G' : Hp} {d : D} {v : V} (f : flD d = true) (h : Rp K G v d) : Rp K G' v d := by
  cases d <;> first | (exact (Bool.false_ne_true f).elim) | exact h
/-- e op x, x looked at -/
def pkR (g : G2) (Fa : DE) (i : Nat) : DE := fun ρ P R => Fa ρ (fun d ρ1 => ∃ e, pk ρ1 i = some e ∧ g d e fun r => flD r = true ∧ P r ρ1) R
theorem pkR_go {g : G2} {Fa : DE} {i : Nat} {σ : L2.St} {H : Hp} {Q : VK} (h : LE K W (pkR g Fa i) σ H Q) : tOp (RD2 K g) (LE K W Fa) (tVar i) σ H Q := by
  obtain ⟨c, G, ρ, P, R, r, f, k, kx⟩ := h
  refine ⟨c, G, ρ, _, R, r, f, fun d ρ1 v H1 G1 f1 r1 s1 q1 => ?_, kx⟩
  obtain ⟨e, ep, f1⟩ := f1
  obtain ⟨w, G', ew, s2, s3, q2⟩ := r1.peeked ep
  refine ⟨w, ew, G', d, e, _, s3, q1.mono s2, q2, f1, fun x u H' G'' p ex rp => ?_⟩
  exact k _ _ _ _ _ p.2 (r1.ext (Ext.tmp r1.gh ex.h)) s1 (flat_any p.1 rp)
theorem pd_cmpPk {a : Expr} {y : Str} {py : Pos} {op : CmpOp} {pos : Pos} {g : G2} {Fa : DE} {i : Nat} (ho : OpR X (compareOp op) (RD2 K g)) (ha : PD K W X a Fa) (hv : PE X (.Name y py) (tVar i)) (hm : behindInMarks op (.Name y py) = false := by first | exact nomark _ | rfl) : PD K W X (.Compare a [op] [.Name y py] pos) (pkR g Fa i) :=
  PE.imp (pe_cmpR ho ha hv hm) fun _ _ _ h => pkR_go h
theorem pdt_cmpPk {a : Expr} {y : Str} {py : Pos} {op : CmpOp} {pos : Pos} {g : G2} {Fa : DE} {i : Nat} (ho : OpR X (compareOp op) (RD2 K g)) (ha : PD K W X a Fa) (hv : PE X (.Name y py) (tVar i)) (hm : behindInMarks op (.Name y py) = false := by first | exact nomark _ | rfl) : PDT K W X (.Compare a [op] [.Name y py] pos) (tstD (pkR g Fa i)) :=
  PT.imp (pt_cmpR ho ha hv hm) fun _ _ _ h => pkR_go h.tst
/-- x op e, x looked at -/
def pkL (g : G2) (i : Nat) (Fb : DE) : DE := fun ρ P R => (pk ρ i).isSome = true ∧ Fb ρ (fun e ρ1 => ∃ d, pk ρ1 i = some d ∧ g d e fun r => flD r = true ∧ P r ρ1) R
theorem pkL_go {g : G2} {Fb : DE} {i : Nat} {σ : L2.St} {H : Hp} {Q : VK} (h : LE K W (pkL g i Fb) σ H Q) : tOp (RD2 K g) (tVar i) (LE K W Fb) σ H Q := by
  obtain ⟨c, G, ρ, P, R, r, ⟨h0, f⟩, k, kx⟩ := h
  obtain ⟨d0, e0⟩ := Option.isSome_iff_exists.mp h0
  obtain ⟨v0, G0, ev0, _⟩ := r.peeked e0
  refine ⟨v0, ev0, c, G, ρ, _, R, r, f, fun e ρ1 w H1 G1 f1 r1 s1 q1 => ?_, kx⟩
  obtain ⟨d, ep, f1⟩ := f1
  obtain ⟨v, G', ew, s2, s3, q2⟩ := r1.peeked ep
  rw [ev0] at ew
  cases ew
  refine ⟨G', d, e, _, s3, q2, q1.mono s2, f1, fun x u H' G'' p ex rp => ?_⟩
  exact k _ _ _ _ _ p.2 (r1.ext (Ext.tmp r1.gh ex.h)) s1 (flat_any p.1 rp)
theorem pd_cmpPl {b : Expr} {y : Str} {py : Pos} {op : CmpOp} {pos : Pos} {g : G2} {Fb : DE} {i : Nat} (ho : OpR X (compareOp op) (RD2 K g)) (hv : PE X (.Name y py) (tVar i)) (hb : PD K W X b Fb) (hm : behindInMarks op b = false := by first | exact nomark _ | rfl) : PD K W X (.Compare (.Name y py) [op] [b] pos) (pkL g i Fb) :=
  PE.imp (pe_cmpR ho hv hb hm) fun _ _ _ h => pkL_go h
theorem pdt_cmpPl {b : Expr} {y : Str} {py : Pos} {op : CmpOp} {pos : Pos} {g : G2} {Fb : DE} {i : Nat} (ho : OpR X (compareOp op) (RD2 K g)) (hv : PE X (.Name y py) (tVar i)) (hb : PD K W X b Fb) (hm : behindInMarks op b = false := by first | exact nomark _ | rfl) : PDT K W X (.Compare (.Name y py) [op] [b] pos) (tstD (pkL g i Fb)) :=
  PT.imp (pt_cmpR ho hv hb hm) fun _ _ _ h => pkL_go h.tst
/-- len(x), x looked at -/
def lenPk (i : Nat) : DE := fun ρ P _ => ∃ d n, pk ρ i = some d ∧ lenB d = some n ∧ P (.int n) ρ
theorem pd_lenPk (hK : X.K = K) {y : Str} {py : Pos} {p pos : Pos} {i : Nat} (hm : X.mg "len" = none) (hv : PE X (.Name y py) (tVar i)) (hg : Gl X "len" := by rfl) (he : starEach [.Name y py] X.env = (false, eval (.Name y py) X.env) :: starEach [] X.env := by rfl) (hpl : (backTo pos (starEach [] X.env)).any (·.1) = false := by rfl) :
    PD K W X (.Call (.Name "len" p) [.Name y py] [] pos) (lenPk i) := by
  refine PE.imp (pe_callB (do_len hK) hg hm PySem.boot_len (pa_cons hv pa_nil he) (by decide) (by decide) he hpl) fun σ H Q ⟨c, G, ρ, P, R, r, ⟨d, n, ep, en, f⟩, k, kx⟩ => ?_
  obtain ⟨v, G', ev, s2, s3, q⟩ := r.peeked ep
  refine ⟨v, ev, G', [d], fun r => r = .int n ∧ P r ρ, s3, RpAll.cons q RpAll.nil, ⟨n, en, rfl, f⟩, fun x u H' G'' p ex rp => ?_⟩
  obtain ⟨rfl, p⟩ := p
  exact k _ _ _ _ _ p (r.ext (Ext.tmp r.gh ex.h)) (Same.refl _) (flat_any rfl rp)
/-- x[i], x looked at: a list's part -/
def ixPk (i : Nat) (Fb : DE) : DE := fun ρ P R => (∃ l, ρ[i]? = some (.own l)) ∧ Fb ρ (fun e ρ1 => ∃ l j x, ρ1[i]? = some (.own l) ∧ e = .int j ∧ atI l j = some x ∧ P x ρ1) R
theorem pd_ixPk (hK : X.K = K) {b : Expr} {y : Str} {py : Pos} {pos : Pos} {Fb : DE} {i : Nat} (hv : PE X (.Name y py) (tVar i)) (hb : PD K W X b Fb) (hs : PlainIx b := by exact fun _ _ => rfl) : PD K W X (.Subscript (.Name y py) b pos) (ixPk i Fb) := by
  refine PE.imp (pe_ix ix_list hv hb hs) fun σ H Q ⟨c, G, ρ, P, R, r, ⟨⟨l0, e0⟩, f⟩, k, kx⟩ => ?_
  subst hK
  obtain ⟨a0, xs0, ev0, _⟩ := r.ownL e0
  refine ⟨_, ev0, c, G, ρ, _, R, r, f, fun e ρ1 w H1 G1 f1 r1 s1 q1 => ?_, kx⟩
  obtain ⟨l, j, x, el, rfl, ex, f1⟩ := f1
  obtain ⟨a, xs, ev, eh, ra, _⟩ := r1.ownL el
  rw [ev0] at ev
  cases ev
  cases (show w = _ from q1)
  obtain ⟨v, ev', rv⟩ := at_rp ra ex
  exact ⟨a0, xs, j, v, rfl, rfl, SqL.of eh, ev', k _ _ _ _ _ f1 r1 s1 rv⟩
/-- x.append(e) -/
def appD (i : Nat) (Fe : DE) : DE := fun ρ P R => (∃ l, ρ[i]? = some (.own l)) ∧ Fe ρ (fun d ρ1 => ∃ l, ρ1[i]? = some (.own l) ∧ l.length < sizeLine ∧ P .non (ρ1.set i (.own (l ++ [d])))) R
theorem pd_app {y : Str} {py apos cpos : Pos} {e : Expr} {Fe : DE} {i : Nat} (hv : PE X (.Name y py) (tVar i)) (he : PD K W X e Fe) (hst : starEach [e] X.env = (false, eval e X.env) :: starEach [] X.env := by rfl) (hbase : attributeBase (.Name y py) "append" X.env (eval (.Name y py) X.env) = eval (.Name y py) X.env := by rfl)
    (hfew : ((backTo cpos (starEach [e] X.env)).all (fun x => !x.1) && (backToKw cpos (keywordEach [] X.env)).all (fun x => x.1.isSome)
      && decide ([e].length + ([] : List Keyword).length + (if ([] : List Keyword).isEmpty then 0 else 1) < 30)) = true := by rfl)
    (hline : (apos.endLine == cpos.line) = true := by rfl) (hplain : (backTo cpos (starEach [] X.env)).any (·.1) = false := by rfl) :
    PD K W X (.Call (.Attribute (.Name y py) "append" apos) [e] [] cpos) (appD i Fe) := by
  refine PE.imp (pe_bm PySem.F.plainAttrs_list PySem.F.slot_list_append PySem.F.type_list_append mt_append hv (pa_cons he pa_nil hst) hbase hfew hline hst hplain) fun σ H Q ⟨c, G, ρ, P, R, r, ⟨⟨l0, e0⟩, f⟩, k, kx⟩ => ?_
  obtain ⟨a0, xs0, ev0, eh0, _⟩ := r.ownL e0
  refine ⟨_, ev0, .inl ⟨rfl, _, SqL.of eh0⟩, c, G, ρ, _, R, r, f, fun d ρ1 w H1 G1 f1 r1 s1 q1 => ?_, kx⟩
  obtain ⟨l, el, hz, f1⟩ := f1
  obtain ⟨a, xs, ev, eh, ra, ga, wr, _⟩ := r1.ownL el
  rw [ev0] at ev
  cases ev
  exact ⟨a0, xs, w, rfl, rfl, eh, by rw [ra.len]; exact hz, k _ _ _ _ _ f1 (wr _ _ (ra.snoc q1)) s1 rfl⟩
/-- x.extend(e) -/
def extdD (i : Nat) (Fe : DE) : DE := fun ρ P R => (∃ l, ρ[i]? = some (.own l)) ∧ Fe ρ (fun d ρ1 => ∃ l m, ρ1[i]? = some (.own l) ∧ d = .lst m ∧ l.length + m.length ≤ sizeLine ∧ P .non (ρ1.set i (.own (l ++ m)))) R
theorem pd_extd {y : Str} {py apos cpos : Pos} {e : Expr} {Fe : DE} {i : Nat} (hv : PE X (.Name y py) (tVar i)) (he : PD K W X e Fe) (hst : starEach [e] X.env = (false, eval e X.env) :: starEach [] X.env := by rfl) (hbase : attributeBase (.Name y py) "extend" X.env (eval (.Name y py) X.env) = eval (.Name y py) X.env := by rfl)
    (hfew : ((backTo cpos (starEach [e] X.env)).all (fun x => !x.1) && (backToKw cpos (keywordEach [] X.env)).all (fun x => x.1.isSome)
      && decide ([e].length + ([] : List Keyword).length + (if ([] : List Keyword).isEmpty then 0 else 1) < 30)) = true := by rfl)
    (hline : (apos.endLine == cpos.line) = true := by rfl) (hplain : (backTo cpos (starEach [] X.env)).any (·.1) = false := by rfl) :
    PD K W X (.Call (.Attribute (.Name y py) "extend" apos) [e] [] cpos) (extdD i Fe) := by
  refine PE.imp (pe_bm PySem.F.plainAttrs_list PySem.F.slot_list_extend PySem.F.type_list_extend mt_extend hv (pa_cons he pa_nil hst) hbase hfew hline hst hplain) fun σ H Q ⟨c, G, ρ, P, R, r, ⟨⟨l0, e0⟩, f⟩, k, kx⟩ => ?_
  obtain ⟨a0, xs0, ev0, eh0, _⟩ := r.ownL e0
  refine ⟨_, ev0, .inl ⟨rfl, _, SqL.of eh0⟩, c, G, ρ, _, R, r, f, fun d ρ1 w H1 G1 f1 r1 s1 q1 => ?_, kx⟩
  obtain ⟨l, m, el, rfl, hz, f1⟩ := f1
  obtain ⟨a, xs, ev, eh, ra, ga, wr, _⟩ := r1.ownL el
  rw [ev0] at ev
  cases ev
  obtain ⟨b, ys, rfl, h1, rb⟩ := q1
  exact ⟨a0, b, xs, ys, rfl, rfl, eh, r1.gh _ _ h1, by rw [ra.len, rb.len]; exact hz, k _ _ _ _ _ f1 (wr _ _ (ra.app rb)) s1 rfl⟩
/-- x.pop() -/
def popD (i : Nat) : DE := fun ρ P _ => ∃ l x, ρ[i]? = some (.own l) ∧ l[l.length - 1]? = some x ∧ P x (ρ.set i (.own l.dropLast))
theorem rp_dropLast {G : Hp} {xs : List V} {l : List D} (r : RpAll K G xs l) : RpAll K G xs.dropLast l.dropLast := by
  rw [List.dropLast_eq_take, List.dropLast_eq_take, r.len]
  exact r.take _
theorem pd_pop {y : Str} {py apos cpos : Pos} {i : Nat} (hv : PE X (.Name y py) (tVar i)) (hbase : attributeBase (.Name y py) "pop" X.env (eval (.Name y py) X.env) = eval (.Name y py) X.env := by rfl) (hline : (apos.endLine == cpos.line) = true := by rfl) :
    PD K W X (.Call (.Attribute (.Name y py) "pop" apos) [] [] cpos) (popD i) := by
  refine PE.imp (pe_bm0 PySem.F.plainAttrs_list PySem.F.slot_list_pop PySem.F.type_list_pop mt_pop hv hbase hline) fun σ H Q ⟨c, G, ρ, P, R, r, ⟨l, x, e0, ex, f⟩, k, kx⟩ => ?_
  obtain ⟨a, xs, ev, eh, ra, ga, wr, _⟩ := r.ownL e0
  obtain ⟨v, ev', rv⟩ := ra.at ex
  exact ⟨_, ev, .inl ⟨rfl, _, SqL.of eh⟩, a, xs, v, rfl, rfl, eh, by rw [ra.len]; exact ev', k _ _ _ _ _ f (wr _ _ (rp_dropLast ra)) (Same.refl _) rv⟩
/-- x.pop(e) -/
def popAtD (i : Nat) (Fe : DE) : DE := fun ρ P R => (∃ l, ρ[i]? = some (.own l)) ∧ Fe ρ (fun d ρ1 => ∃ l j x, ρ1[i]? = some (.own l) ∧ d = .int (j : Nat) ∧ l.length < 2 ^ 62 ∧ l[j]? = some x ∧ P x (ρ1.set i (.own (l.eraseIdx j)))) R
theorem rp_erase {G : Hp} {xs : List V} {l : List D} (j : Nat) (r : RpAll K G xs l) : RpAll K G (xs.eraseIdx j) (l.eraseIdx j) := by
  rw [List.eraseIdx_eq_take_drop_succ, List.eraseIdx_eq_take_drop_succ]
  exact (r.take _).app (r.drop _)
theorem pd_popAt {y : Str} {py apos cpos : Pos} {e : Expr} {Fe : DE} {i : Nat} (hv : PE X (.Name y py) (tVar i)) (he : PD K W X e Fe) (hst : starEach [e] X.env = (false, eval e X.env) :: starEach [] X.env := by rfl) (hbase : attributeBase (.Name y py) "pop" X.env (eval (.Name y py) X.env) = eval (.Name y py) X.env := by rfl)
    (hfew : ((backTo cpos (starEach [e] X.env)).all (fun x => !x.1) && (backToKw cpos (keywordEach [] X.env)).all (fun x => x.1.isSome)
      && decide ([e].length + ([] : List Keyword).length + (if ([] : List Keyword).isEmpty then 0 else 1) < 30)) = true := by rfl)
    (hline : (apos.endLine == cpos.line) = true := by rfl) (hplain : (backTo cpos (starEach [] X.env)).any (·.1) = false := by rfl) :
    PD K W X (.Call (.Attribute (.Name y py) "pop" apos) [e] [] cpos) (popAtD i Fe) := by
  refine PE.imp (pe_bm PySem.F.plainAttrs_list PySem.F.slot_list_pop PySem.F.type_list_pop mt_popAt hv (pa_cons he pa_nil hst) hbase hfew hline hst hplain) fun σ H Q ⟨c, G, ρ, P, R, r, ⟨⟨l0, e0⟩, f⟩, k, kx⟩ => ?_
  obtain ⟨a0, xs0, ev0, eh0, _⟩ := r.ownL e0
  refine ⟨_, ev0, .inl ⟨rfl, _, SqL.of eh0⟩, c, G, ρ, _, R, r, f, fun d ρ1 w H1 G1 f1 r1 s1 q1 => ?_, kx⟩
  obtain ⟨l, j, x, el, rfl, hz, ex, f1⟩ := f1
  obtain ⟨a, xs, ev, eh, ra, ga, wr, _⟩ := r1.ownL el
  rw [ev0] at ev
  cases ev
  cases (show w = _ from q1)
  obtain ⟨v, ev', rv⟩ := ra.at ex
  have hj := lt_of_at ev'
  have hlx := ra.len
  have e1 : seqIndex? (j : Int) xs.length = some j := by
    rw [seqIndex_of (by omega) (by omega)]
    simp
  exact ⟨a0, xs, j, j, v, rfl, rfl, eh, by omega, by omega, e1, ev', k _ _ _ _ _ f1 (wr _ _ (rp_erase j ra)) s1 rv⟩

/-! ### objects -/
def lookD (f : Str) : List Str → List D → Option D
  | n :: ns, d :: ds => if f = n then some d else lookD f ns ds
  | _, _ => none
theorem look_rp {G : Hp} {f : Str} : ∀ {us : List (Str × V)} {ds : List D} {x : D}, RpAll K G (us.map (·.2)) ds → lookD f (us.map (·.1)) ds = some x → ∃ v, us.lookup f = some v ∧ Rp K G v x
  | [], ds, x, _, e => by cases ds <;> cases e
  | (n, u) :: us, [], x, _, e => by cases e
  | (n, u) :: us, d :: ds, x, r, e => by
    obtain ⟨y, ys, e1, q, t⟩ := r
    rw [List.map_cons] at e1
    cases e1
    rw [List.map_cons] at e
    unfold lookD at e
    rw [List.lookup_cons]
    by_cases h : f = n
    · rw [if_pos h] at e
      cases e
      exact ⟨u, by simp [h], q⟩
    · rw [if_neg h] at e
      have hb : (f == n) = false := by simpa using h
      rw [hb]
      exact look_rp t e
theorem look_none {f : Str} : ∀ {us : List (Str × V)}, f ∉ us.map (·.1) → us.lookup f = none
  | [], _ => rfl
  | (n, u) :: us, h => by
    rw [List.map_cons, List.mem_cons, not_or] at h
    rw [List.lookup_cons]
    have hb : (f == n) = false := by simpa using h.1
    rw [hb]
    exact look_none h.2
/-- e.f of an instance of C -/
def fldD (C : Addr) (f : Str) (F : DE) : DE := fun ρ P R => F ρ (fun d ρ1 => ∃ ns ds x, d = .ins C ns ds ∧ lookD f ns ds = some x ∧ P x ρ1) R
theorem pd_fld (hK : X.K = K) {C : Addr} {f : Str} {e : Expr} {F : DE} {pos : Pos} (cl : Cls K C) (na : NoAttr K C f) (he : PD K W X e F) (hb : attributeBase e f X.env (eval e X.env) = eval e X.env := by rfl) : PD K W X (.Attribute e f pos) (fldD C f F) := by
  refine PE.imp (pe_fld he hb) fun σ H Q ⟨c, G, ρ, P, R, r, f0, k, kx⟩ => ?_
  subst hK
  refine ⟨c, G, ρ, _, R, r, f0, fun d ρ1 v H1 G1 f1 r1 s1 q1 => ?_, kx⟩
  obtain ⟨ns, ds, x, rfl, el, f1⟩ := f1
  obtain ⟨a, dx, us, rfl, h1, rfl, ra⟩ := q1
  obtain ⟨u, eu, rv⟩ := look_rp ra el
  exact ⟨a, C, dx, us, u, rfl, r1.gh _ _ h1, cl, na, eu, k _ _ _ _ _ f1 r1 s1 rv⟩
/-- o.m(..), of C -/
def methD (C : Addr) (m : Str) (n : Nat) (M : Mc) (Fo : DE) (Fs : DA) : DE := fun ρ P R => Fo ρ (fun d ρ1 => ∃ ns ds, d = .ins C ns ds ∧ m ∉ ns ∧ Fs ρ1 (fun as ρ2 => as.length + 1 = n ∧ M (d :: as) (fun r => P r ρ2) noX) R) R
def methXD (C : Addr) (m : Str) (n : Nat) (M : Mc) (Fo : DE) (Fs : DA) : DE := fun ρ P R => Fo ρ (fun d ρ1 => ∃ ns ds, d = .ins C ns ds ∧ m ∉ ns ∧ Fs ρ1 (fun as ρ2 => as.length + 1 = n ∧ M (d :: as) (fun r => P r ρ2) fun x => R x ρ2) R) R
theorem methD_go {C : Addr} {m : Str} {n : Nat} {M : Mc} {Fo : DE} {Fs : DA} {σ : L2.St} {H : Hp} {Q : VK} (h : LE K W (methD C m n M Fo Fs) σ H Q) : tMeth C m (spD K n M) [] E0 (LE K W Fo) (LA K W Fs) σ H Q := by
  obtain ⟨c, G, ρ, P, R, r, f, k, kx⟩ := h
  refine ⟨c, G, ρ, _, R, r, f, fun d ρ1 v H1 G1 f1 r1 s1 q1 => ?_, kx⟩
  obtain ⟨ns, ds, rfl, nm, f1⟩ := f1
  have q0 := q1
  obtain ⟨a, dx, us, rfl, h1, rfl, ra⟩ := q1
  refine ⟨a, dx, us, rfl, r1.gh _ _ h1, look_none nm, c, G1, ρ1, _, R, r1, f1, fun as ρ2 vs H2 G2 f2 r2 s2 q2 => ?_, kx.step s1⟩
  exact ⟨G2, .ins C (us.map (·.1)) ds :: as, _, _, r2.gh, by rw [List.append_nil]; exact RpAll.cons (q0.mono s2) q2, f2.1, f2.2, fun d v H' G' p ex rp => k _ _ _ _ _ p (r2.ext ex) ((s1.trans s2).trans ex.g) rp, fun _ _ _ _ _ z => z.elim⟩
section
variable {k n : Nat} {f C : Addr} {fd : FuncData} {ps : List Str} {M : Mc} {m : Str} {p pos apos : Pos} {o e : Expr} {es : List Expr} {Fo : DE} {Fs : DA}
theorem pd_meth {pl : Sem Bool} (c : Cls X.K C) (hm : Meth X.K C m f) (F : FnOk X.prog X.w X.K X.mg X.base CX0 k f fd ps (spD K n M)) (hr : Room k X.A) (hb : Binds X.K fd ps []) (ho : PD K W X o Fo) (ha : PDA K W X (e :: es) Fs)
    (hst : starEach (e :: es) X.env = (false, eval e X.env) :: starEach es X.env := by rfl) (hpl : (backTo pos (starEach es X.env)).any (·.1) = false := by rfl)
    (ht : eval (.Call (.Attribute o m apos) (e :: es) [] pos) X.env = (do
      let ov ← eval o X.env
      standAt apos.atName
      let (f, first) ← holding [ov] (getMethod ov m pl)
      callWith pos f first (backTo pos (starEach (e :: es) X.env)) (backToKw pos (keywordEach [] X.env))) := by rfl) : PD K W X (.Call (.Attribute o m apos) (e :: es) [] pos) (methD C m n M Fo Fs) :=
  PE.imp (pe_meth ho c hm F hr hb .nil pass0 ha hst hpl ht) fun _ _ _ h => methD_go h
theorem pd_meth0 {pl : Sem Bool} (c : Cls X.K C) (hm : Meth X.K C m f) (F : FnOk X.prog X.w X.K X.mg X.base CX0 k f fd ps (spD K n M)) (hr : Room k X.A) (hb : Binds X.K fd ps []) (ho : PD K W X o Fo)
    (ht : eval (.Call (.Attribute o m apos) [] [] pos) X.env = (do
      let ov ← eval o X.env
      standAt apos.atName
      let (f, first) ← holding [ov] (getMethod ov m pl)
      callWith pos f first (backTo pos (starEach [] X.env)) (backToKw pos (keywordEach [] X.env))) := by rfl) : PD K W X (.Call (.Attribute o m apos) [] [] pos) (methD C m n M Fo nilA) := by
  refine PE.imp (pe_meth0 ho c hm F hr hb .nil pass0 ht) fun σ H Q h => ?_
  obtain ⟨cc, G, ρ, P, R, r, f, k, kx⟩ := methD_go h
  refine ⟨cc, G, ρ, P, R, r, f, fun d ρ1 v H1 G1 f1 r1 s1 q1 => ?_, kx⟩
  obtain ⟨a, dx, fs, e1, e2, e3, c2, G2, ρ2, P2, R2, r2, f2, k2, _⟩ := k d ρ1 v H1 G1 f1 r1 s1 q1
  exact ⟨a, dx, fs, e1, e2, e3, k2 _ _ _ _ _ f2 r2 (Same.refl _) RpAll.nil⟩
/-- what an __init__ does: the fields in the end -/
abbrev Mi := List D → (List Str → List D → Prop) → (Xd → Prop) → Prop
def spI (K : PySem.W.Frag) (C : Addr) (n : Nat) (M : Mi) : Sp := fun vs H Q E => ∃ G x dx us ds P R, vs = .ref x :: us ∧ H x = some (.ins C dx []) ∧ G x = none ∧ Same G H ∧ RpAll K G us ds ∧ ds.length = n ∧ M ds P R ∧
  (∀ ns fs us' H' G', P ns fs → H' x = some (.ins C dx us') → us'.map (·.1) = ns → RpAll K G' (us'.map (·.2)) fs → (∀ a o, a ≠ x → H a = some o → H' a = some o) → Same G G' → Same G' H' → G' x = none → (∀ a, G' a ≠ none → G a ≠ none ∨ H a = none) → Q .non H') ∧
  (∀ y e v H' G', R y → (∀ a o, a ≠ x → H a = some o → H' a = some o) → Same G G' → Same G' H' → (∀ a, G' a ≠ none → G a ≠ none ∨ H a = none) → G' x = none → H' x ≠ none → Rp K G' v y.d → H' e = none → E (.ref y.c) (some e) (upd H' e (.xd [(y.f, v)])))
end
/-- self at slot 0 -/
def evIn (x dx C : Addr) (ds : List D) (N : List Str) : Ev := .ownI x dx C [] [] :: (ds.map Sl.val ++ List.replicate (N.length - (ds.length + 1)) .no)
def endIn (x dx C : Addr) (P : List Str → List D → Prop) (R : Xd → Prop) : De := { nx := fun ρ => ∃ ns fs, ρ[0]? = some (.ownI x dx C ns fs) ∧ P ns fs, rt := fun _ _ => False, bk := fun _ => False, ct := fun _ => False, rz := fun y ρ => (∃ ns fs, ρ[0]? = some (.ownI x dx C ns fs)) ∧ R y }
theorem Rep.beginI {x dx : Addr} {C : Addr} {H G : Hp} {vs : List V} {ds : List D} {N : List Str} (s : Same G H) (r : RpAll K G vs ds) (hx : H x = some (.ins C dx [])) (gx : G x = none) :
    Rep K ⟨fun a => if a = x then none else H a, G, fun _ => False⟩ (L2.start N (.ref x :: vs)) H G (evIn x dx C ds N) := by
  have hl := r.len
  refine ⟨?_, s, Same.refl _, fun a o _ h => ?_, fun _ h => h.elim, fun _ h => .inl h, fun a h => ?_, fun i => if i = 0 then [x] else [], fun i sl hi => ?_, fun i a hi ha => ?_, fun i j a hi hj ha hb => ?_⟩
  · unfold L2.start evIn
    rw [List.length_cons, List.length_append, List.length_append, List.length_map, List.length_map, List.length_replicate, List.length_replicate, List.length_cons, hl]
    omega
  · dsimp only at h
    split at h
    · cases h
    · exact h
  · dsimp only
    split
    · rfl
    · exact h
  · unfold L2.start
    dsimp only
    unfold evIn at hi
    cases i with
    | zero =>
      cases hi
      exact ⟨[], rfl, rfl, hx, rfl, rfl⟩
    | succ i =>
      rw [if_neg (by omega), List.map_cons, List.cons_append, List.getElem?_cons_succ]
      rw [List.getElem?_cons_succ] at hi
      by_cases h : i < ds.length
      · rw [List.getElem?_append_left (by rw [List.length_map]; exact h), List.getElem?_map] at hi
        rw [List.getElem?_append_left (by rw [List.length_map, hl]; exact h), List.getElem?_map]
        rw [List.getElem?_eq_getElem h] at hi
        cases hi
        obtain ⟨v, ev, q⟩ := r.at (List.getElem?_eq_getElem h)
        rw [ev]
        exact ⟨rfl, v, rfl, q⟩
      · rw [List.getElem?_append_right (by rw [List.length_map]; omega)] at hi
        have e := List.eq_of_mem_replicate (List.mem_of_getElem? hi)
        subst e
        exact rfl
  · dsimp only at ha
    by_cases z : i = 0
    · rw [if_pos z] at ha
      rw [List.mem_singleton.mp ha]
      exact ⟨gx, .inl (by dsimp only; rw [if_pos rfl])⟩
    · rw [if_neg z] at ha
      cases ha
  · dsimp only at ha hb
    by_cases z : i = 0
    · by_cases y : j = 0
      · rw [z, y]
      · rw [if_neg y] at hb
        cases hb
    · rw [if_neg z] at ha
      cases ha
section
variable {P : Program} {w : World} {mg : Str → Option Value} {base : Heap}
theorem init_go {st : List Stmt} {X : Cx} {N : List Str} {n : Nat} {C : Addr} {M : Mi} {Fb : DS} {E : XK} {vs : List V} {H : Hp} {Q : VK} (h : PDSs K (fun cls d _ H => E cls d H) X st Fb) (hb : ∀ x dx ds P R, ds.length = n → M ds P R → Fb (evIn x dx C ds N) (endIn x dx C P R)) (sp : spI K C n M vs H Q E) :
    ∃ t, PSs X st t ∧ t { nx := fun _ H' => Q .non H', rt := Q } (L2.start N vs) H := by
  obtain ⟨G, x, dx, us, ds, P', R, rfl, hx, gx, sg, ra, hl, m, k, kx⟩ := sp
  have keep : ∀ {σ' : L2.St} {H' G' : Hp} {ρ' : Ev}, Rep K ⟨fun a => if a = x then none else H a, G, fun _ => False⟩ σ' H' G' ρ' → (∀ a o, a ≠ x → H a = some o → H' a = some o) := fun r a o na ha => r.fr a o (fun z => z) (by dsimp only; rw [if_neg na]; exact ha)
  have nw : ∀ {σ' : L2.St} {H' G' : Hp} {ρ' : Ev}, Rep K ⟨fun a => if a = x then none else H a, G, fun _ => False⟩ σ' H' G' ρ' → G' x = none → (∀ a, G' a ≠ none → G a ≠ none ∨ H a = none) := fun r gx' a ha => by
    rcases r.nw a ha with z | z
    · exact .inl z
    · dsimp only at z
      by_cases y : a = x
      · rw [y, gx'] at ha
        exact absurd rfl ha
      · rw [if_neg y] at z
        exact .inr z
  refine ⟨_, h, ⟨fun a => if a = x then none else H a, G, fun _ => False⟩, G, _, _, Rep.beginI sg ra hx gx, hb x dx ds P' R hl m, ⟨fun ρ' σ' H' G' f r s => ?_, fun d ρ' σ' v H' G' f r s q => f.elim, fun ρ' σ' H' G' f r s => f.elim, fun ρ' σ' H' G' f r s => f.elim, fun σ' y ρ' e v H' G' f r s q n => ?_⟩⟩
  · obtain ⟨ns, fs, e0, f⟩ := f
    obtain ⟨us', ev, eh, en, ra', gx', _⟩ := r.ownIn e0
    exact k ns fs us' H' G' f eh en ra' (keep r) r.g0 r.gh gx' (nw r gx')
  · obtain ⟨⟨ns, fs, e0⟩, f⟩ := f
    obtain ⟨us', ev, eh, en, ra', gx', _⟩ := r.ownIn e0
    exact kx y e v H' G' f (keep r) r.g0 r.gh (nw r gx') gx' (by rw [eh]; exact fun z => nomatch z) q n
/-- self.f = e -/
def fldS (i : Nat) (f : Str) (F : DE) : DS := fun ρ e => F ρ (fun d ρ1 => ∃ x dx C ns ds, ρ1[i]? = some (.ownI x dx C ns ds) ∧ f ∉ ns ∧ ns.length < 1000 ∧ e.nx (ρ1.set i (.ownI x dx C (ns ++ [f]) (ds ++ [d])))) e.rz
theorem putF_new {f : Str} {v : V} : ∀ {fs : List (Str × V)}, f ∉ fs.map (·.1) → putF f v fs = fs ++ [(f, v)]
  | [], _ => rfl
  | (g, x) :: r, h => by
    rw [List.map_cons, List.mem_cons, not_or] at h
    unfold putF
    rw [if_neg fun z => h.1 z.symm, putF_new h.2]
    rfl
theorem pds_fld {X : Cx} {W : WX} (hK : X.K = K) {C : Addr} {i : Nat} {f y : Str} {py pos pos' : Pos} {value : Expr} {F : DE} (cl : Cls K C) (na : NoAttr K C f) (hv : PE X (.Name y py) (tVar i)) (he : PD K W X value F) (hs : swapsWith value (some (.Attribute (.Name y py) f pos')) pos.line X.env = pure false := by rfl) :
    PDS K W X (.Assign [.Attribute (.Name y py) f pos'] value pos) (fun ρ e => F ρ (fun d ρ1 => ∃ x dx ns ds, ρ1[i]? = some (.ownI x dx C ns ds) ∧ f ∉ ns ∧ ns.length < 1000 ∧ e.nx (ρ1.set i (.ownI x dx C (ns ++ [f]) (ds ++ [d])))) e.rz) := by
  refine PS.imp (ps_fld hv he hs) fun D σ H ⟨c, G, ρ, e, r, f0, o⟩ => ?_
  subst hK
  refine ⟨c, G, ρ, _, _, r, f0, fun d ρ1 v H1 G1 f1 r1 s1 q1 => ?_, o.rz σ⟩
  obtain ⟨x, dx, ns, ds, e0, hf, hl, f1⟩ := f1
  obtain ⟨us, ev, eh, en, ra, gx, wr⟩ := r1.ownIn e0
  refine ⟨_, ev, x, C, dx, us, rfl, eh, cl, na, by rw [← en, List.length_map] at hl; exact hl, ?_⟩
  refine o.nx _ _ _ _ f1 ?_ s1
  rw [← en] at hf
  rw [putF_new hf]
  exact wr _ _ _ (by rw [List.map_append, en]; rfl) (by rw [List.map_append]; exact ra.snoc q1)
/-- C(..) -/
def makeD (C : Addr) (n : Nat) (M : Mi) (Fs : DA) : DE := fun ρ P R => Fs ρ (fun ds ρ1 => ds.length = n ∧ M ds (fun ns fs => P (.ins C ns fs) ρ1) noX) R
def makeXD (C : Addr) (n : Nat) (M : Mi) (Fs : DA) : DE := fun ρ P R => Fs ρ (fun ds ρ1 => ds.length = n ∧ M ds (fun ns fs => P (.ins C ns fs) ρ1) fun x => R x ρ1) R
theorem made_in {c : Ct} {σ : L2.St} {H G : Hp} {ρ : Ev} (r : Rep K c σ H G ρ) {x dx C : Addr} (hx : H x = none) (hd : H dx = none) (hne : dx ≠ x) : Same G (upd (upd H dx (.own x)) x (.ins C dx [])) := fun b u e => by
  have h := r.gh b u e
  have n1 : b ≠ x := fun z => by
    rw [z, hx] at h
    cases h
  have n2 : b ≠ dx := fun z => by
    rw [z, hd] at h
    cases h
  rw [upd_ne n1, upd_ne n2]
  exact h
theorem made_end {c : Ct} {σ : L2.St} {H G H' G' : Hp} {ρ : Ev} (r : Rep K c σ H G ρ) {x dx C : Addr} {us : List (Str × V)} (hx : H x = none) (hd : H dx = none) (hne : dx ≠ x)
    (eh : H' x = some (.ins C dx us)) (kp : ∀ a o, a ≠ x → (upd (upd H dx (.own x)) x (.ins C dx [])) a = some o → H' a = some o) (sg : Same G G') (gh : Same G' H') (gx : G' x = none) (nw : ∀ a, G' a ≠ none → G a ≠ none ∨ (upd (upd H dx (.own x)) x (.ins C dx [])) a = none) :
    Ext H G H' (upd G' x (.ins C dx us)) := by
  refine ⟨fun a o e => ?_, sg.trans (same_new gx), fun a o e => ?_, fun a h => ?_⟩
  · have n1 : a ≠ x := fun z => by rw [z, hx] at e; cases e
    have n2 : a ≠ dx := fun z => by rw [z, hd] at e; cases e
    exact kp a o n1 (by rw [upd_ne n1, upd_ne n2]; exact e)
  · by_cases z : a = x
    · rw [z, upd_same] at e
      cases e
      rw [z]
      exact eh
    · rw [upd_ne z] at e
      exact gh a o e
  · by_cases z : a = x
    · rw [z]
      exact .inr hx
    · rw [upd_ne z] at h
      rcases nw a h with y | y
      · exact .inl y
      · rw [upd_ne z] at y
        by_cases w : a = dx
        · rw [w]
          exact .inr hd
        · rw [upd_ne w] at y
          exact .inr y
section
variable {X : Cx} {W : WX} {k n : Nat} {f C : Addr} {fd : FuncData} {ps : List Str} {M : Mi} {x : Str} {p pos : Pos} {e : Expr} {es : List Expr} {Fs : DA}
theorem pd_make (Mm : Mk X.K C f) (F : FnOk X.prog X.w X.K X.mg X.base CX0 k f fd ps (spI K C n M)) (hr : Room (k + 1) X.A) (hm : X.mg x = some (.ref C)) (hb : Binds X.K fd ps []) (ha : PDA K W X (e :: es) Fs) (hg : Gl X x := by rfl) (hdb : (x == ("__debug__" : Str)) = false := by decide)
    (he : starEach (e :: es) X.env = (false, eval e X.env) :: starEach es X.env := by rfl) (hpl : (backTo pos (starEach es X.env)).any (·.1) = false := by rfl) : PD K W X (.Call (.Name x p) (e :: es) [] pos) (makeD C n M Fs) := by
  refine PE.imp (pe_make Mm F hr hg hm hb .nil pass0 ha hdb he hpl) fun σ H Q ⟨c, G, ρ, P, R, r, f, k, kx⟩ => ?_
  refine ⟨c, G, ρ, _, R, r, f, fun ds ρ1 vs H1 G1 f1 r1 s1 q1 x dx hx hd hne => ?_, kx⟩
  refine ⟨G1, x, dx, vs, ds, _, _, by rw [List.append_nil], upd_same, r1.gh.free hx, made_in r1 hx hd hne, q1, f1.1, f1.2, fun ns fs us' H' G' pf eh en ra kp sg gh gx nw => ⟨rfl, ?_⟩, fun _ _ _ _ _ z => z.elim⟩
  have ex := made_end r1 hx hd hne (C := C) (us := us') (by exact eh) kp sg gh gx nw
  exact k _ _ _ _ _ pf (r1.ext ex) (s1.trans ex.g) ⟨x, dx, us', rfl, upd_same, en, ra.mono (same_new gx)⟩
end
end
end
end Vf

set_option Elab.async false
set_option linter.all false
set_option maxRecDepth 100000
set_option maxHeartbeats 2000000
/-! the texts of steps -/
namespace Vf
open PySem PySem.Spec PyProof.Rows L2 TL

theorem len_tl (x : Str) : x.length = (tl x).length := by
  show x.cps.size = x.cps.toList.length
  rw [Array.length_toList]
theorem str_eq {x y : Str} (h : tl x = tl y) : x = y := str_ext h
theorem tl_Join (y : Str) (xs : List Str) : tl (Txt.join y xs) = joinL (tl y) (xs.map tl) := by rw [join_eq, tl_join]
theorem joinL_cons {S p : List Nat} {xs : List (List Nat)} (h : xs ≠ []) : joinL S (p :: xs) = p ++ (S ++ joinL S xs) := by
  cases xs with
  | nil => exact absurd rfl h
  | cons q r => rfl
theorem joinL_app {S : List Nat} : ∀ {xs ys : List (List Nat)}, xs ≠ [] → ys ≠ [] → joinL S (xs ++ ys) = joinL S xs ++ (S ++ joinL S ys)
  | [p], ys, _, h => by
    rw [List.singleton_append, joinL_cons h]
    rfl
  | p :: q :: r, ys, _, h => by
    rw [List.cons_append, joinL_cons (by simp), joinL_app (by simp) h, joinL_cons (xs := q :: r) (by simp), List.append_assoc, List.append_assoc]
  | [], _, h, _ => absurd rfl h
theorem joinL_len {S : List Nat} : ∀ xs : List (List Nat), (joinL S xs).length ≤ (xs.map List.length).sum + xs.length * S.length
  | [] => Nat.zero_le _
  | [p] => by
    show p.length ≤ _
    simp
  | p :: q :: r => by
    have ih := joinL_len (S := S) (q :: r)
    show (p ++ (S ++ joinL S (q :: r))).length ≤ _
    rw [List.length_append, List.length_append, List.map_cons, List.sum_cons, List.length_cons (a := p), Nat.succ_mul]
    omega
theorem sum_le {l : List Nat} {m : Nat} (h : ∀ x ∈ l, x ≤ m) : l.sum ≤ l.length * m := by
  induction l with
  | nil => exact Nat.zero_le _
  | cons a r ih =>
    have h1 := h a List.mem_cons_self
    have h2 := ih fun x hx => h x (List.mem_cons_of_mem _ hx)
    rw [List.sum_cons, List.length_cons, Nat.succ_mul]
    omega
theorem join_len {y : Str} {xs : List Str} {m : Nat} (h : ∀ x ∈ xs, x.length ≤ m) : (Txt.join y xs).length ≤ xs.length * m + xs.length * y.length := by
  rw [len_tl, tl_Join, len_tl y]
  have q := joinL_len (S := tl y) (xs.map tl)
  have s : ((xs.map tl).map List.length).sum ≤ xs.length * m := by
    have s0 := sum_le (l := (xs.map tl).map List.length) (m := m) fun x hx => by
      rw [List.map_map] at hx
      obtain ⟨z, hz, rfl⟩ := List.mem_map.mp hx
      show (tl z).length ≤ m
      rw [← len_tl]
      exact h z hz
    rw [List.length_map, List.length_map] at s0
    exact s0
  rw [List.length_map] at q
  omega
/-- what a join may be asked for -/
theorem join_room {y : Str} {xs : List Str} {m : Nat} (h : ∀ x ∈ xs, x.length ≤ m) (hz : xs.length * m + xs.length * y.length ≤ 16777216) : (xs.map (·.length)).sum + xs.length * y.length ≤ 16777216 := by
  have s0 := sum_le (l := xs.map (·.length)) (m := m) fun x hx => by
    obtain ⟨z, hz, rfl⟩ := List.mem_map.mp hx
    exact h z hz
  rw [List.length_map] at s0
  omega

/-! ### rows and steps -/
def numS (i : Int) : Str := toString i
def rowS (t : Tri) : Str := Txt.join " " [t.1, t.2.1, numS t.2.2]
def tailS (tr : List Tri) : Str := Txt.join ", " (tr.map rowS)
def stepS (name : Str) (ys : List Str) (tr : List Tri) : Str := Txt.join " " ((name :: "at" :: ys) ++ (if tr = [] then [] else [("go" : Str), tailS tr]))
def stageS (name : Str) (ys : List Str) (tr : List Tri) : Str := ((name ++ (" at " : Str)) ++ Txt.join " " ys) ++ (if tailS tr = "" then ("" : Str) else (" go " : Str) ++ tailS tr)
theorem tl_row (t : Tri) : tl (rowS t) = tl t.1 ++ ([32] ++ (tl t.2.1 ++ ([32] ++ tl (numS t.2.2)))) := by
  unfold rowS
  rw [tl_Join]
  rfl
/-- as an f-string makes it -/
theorem row_f (t : Tri) : ((((Str.empty ++ t.1) ++ (" " : Str)) ++ t.2.1) ++ (" " : Str)) ++ numS t.2.2 = rowS t := by
  refine str_eq ?_
  rw [tl_row, tl_append, tl_append, tl_append, tl_append, tl_append]
  show ((((([] : List Nat) ++ tl t.1) ++ [32]) ++ tl t.2.1) ++ [32]) ++ tl (numS t.2.2) = _
  simp
theorem tail_nil {tr : List Tri} : tailS tr = "" ↔ tr = [] := by
  constructor
  · intro h
    cases tr with
    | nil => rfl
    | cons t r =>
      have q := congrArg tl h
      unfold tailS at q
      rw [tl_Join] at q
      have q' := congrArg List.length q
      have e0 : (tl ("" : Str)).length = 0 := rfl
      rw [e0] at q'
      have z := List.eq_nil_of_length_eq_zero q'
      rw [List.map_cons, List.map_cons] at z
      cases r with
      | nil =>
        have z' : tl (rowS t) = [] := z
        rw [tl_row] at z'
        simp at z'
      | cons u r =>
        rw [joinL_cons (by simp), tl_row] at z
        simp at z
  · rintro rfl
    rfl
theorem stage_step {name : Str} {ys : List Str} {tr : List Tri} (h : ys ≠ []) : stageS name ys tr = stepS name ys tr := by
  refine str_eq ?_
  unfold stageS stepS
  have hy : ys.map tl ≠ [] := fun z => h (List.map_eq_nil_iff.mp z)
  have s1 : tl (" " : Str) = [32] := rfl
  have s2 : tl (" at " : Str) = [32, 97, 116, 32] := rfl
  have s3 : tl (" go " : Str) = [32, 103, 111, 32] := rfl
  have s4 : tl ("at" : Str) = [97, 116] := rfl
  have s5 : tl ("go" : Str) = [103, 111] := rfl
  rw [tl_append, tl_append, tl_append, tl_Join, tl_Join, s1, s2]
  by_cases e : tr = []
  · rw [if_pos (tail_nil.mpr e), if_pos e, List.append_nil, List.map_cons, List.map_cons, joinL_cons (by simp), joinL_cons hy, s4]
    have s0 : tl ("" : Str) = [] := rfl
    rw [s0]
    simp
  · rw [if_neg (fun z => e (tail_nil.mp z)), if_neg e, tl_append, s3, List.map_append, joinL_app (by simp) (by simp), List.map_cons, List.map_cons, joinL_cons (by simp), joinL_cons hy, s4]
    show _ = _ ++ ([32] ++ joinL [32] [tl ("go" : Str), tl (tailS tr)])
    rw [s5]
    show _ = _ ++ ([32] ++ ([103, 111] ++ ([32] ++ tl (tailS tr))))
    simp
/-- a step with arrows has another text than without -/
theorem step_bare {name : Str} {ys : List Str} {tr : List Tri} : stepS name ys [] = stepS name ys tr ↔ tr = [] := by
  constructor
  · intro h
    cases tr with
    | nil => rfl
    | cons t r =>
      have q := congrArg (fun x => (tl x).length) h
      unfold stepS at q
      simp only [tl_Join] at q
      rw [if_pos trivial, if_neg (by simp), List.append_nil, List.map_append, joinL_app (by simp) (by simp)] at q
      simp only [List.length_append] at q
      have : 0 < (tl (" " : Str)).length := by decide
      omega
  · rintro rfl
    rfl
/-- texts that are short enough -/
def Sm (z : Str) : Prop := z.length ≤ 100
structure TriSm (t : Tri) : Prop where
  a : Sm t.1
  b : Sm t.2.1
  l : t.2.2.natAbs.log2 < 1920
  c : Sm (numS t.2.2)
theorem row_sm {t : Tri} (h : TriSm t) : (rowS t).length ≤ 302 := by
  have h1 : (tl t.1).length ≤ 100 := by rw [← len_tl]; exact h.a
  have h2 : (tl t.2.1).length ≤ 100 := by rw [← len_tl]; exact h.b
  have h3 : (tl (numS t.2.2)).length ≤ 100 := by rw [← len_tl]; exact h.c
  rw [len_tl, tl_row]
  simp only [List.length_append, List.length_cons, List.length_nil]
  omega
theorem tail_sm {tr : List Tri} (h : ∀ t ∈ tr, TriSm t) : (tailS tr).length ≤ tr.length * 304 := by
  have q := join_len (y := ", ") (xs := tr.map rowS) (m := 302) fun x hx => by
    obtain ⟨t, ht, rfl⟩ := List.mem_map.mp hx
    exact row_sm (h t ht)
  rw [List.length_map] at q
  have e : (", " : Str).length = 2 := rfl
  rw [e] at q
  unfold tailS
  omega
theorem cost_sm {c : Int} (h0 : 0 ≤ c) (h3 : c ≤ 3) : c.natAbs.log2 < 1920 ∧ Sm (numS c) := by
  have q : c = 0 ∨ c = 1 ∨ c = 2 ∨ c = 3 := by omega
  rcases q with rfl | rfl | rfl | rfl <;> exact ⟨by decide, by unfold Sm; decide +kernel⟩
end Vf

set_option Elab.async false
set_option linter.all false
set_option maxRecDepth 100000
set_option maxHeartbeats 2000000
/-! rules whose questions name the written part itself: within a comprehension -/
namespace Vf
open PySem PySem.Spec PyProof.Rows L2
section
variable {X : Cx} {K : PySem.W.Frag}
def rJoin (K : PySem.W.Frag) : V → List V → Hp → VK → Prop := fun x xs H Q => ∃ a p, ∃ ys : List Str, x = .str a ∧ xs = [.ref p] ∧ SeqE K H p (ys.map V.str) ∧ (ys.map (·.length)).sum + ys.length * a.length ≤ 16777216 ∧ Q (.str (Txt.join a ys)) H
theorem pe_joinK {o e : Expr} {to te : TE} {apos pos : Pos} (hK : X.K = K) (ho : PE X o to) (he : PE X e te) (hs : starEach [e] X.env = [(false, eval e X.env)] := by rfl) (hbase : attributeBase o "join" X.env (eval o X.env) = eval o X.env := by rfl) (hline : (apos.endLine == pos.line) = true := by rfl) :
    PE X (.Call (.Attribute o "join" apos) [e] [] pos) (tM1 (rJoin K) to te) := by
  subst hK
  exact pe_join ho he hs hbase hline
theorem ix_tupK (hK : X.K = K) : IxR X (rIxT K) := hK ▸ ix_tup
theorem ix_listK (hK : X.K = K) : IxR X (rIxL K) := hK ▸ ix_list
theorem ix_seqK (hK : X.K = K) : IxR X (rIx K) := hK ▸ ix_seq
end
end Vf

set_option Elab.async false
set_option linter.all false
set_option maxRecDepth 100000
set_option maxHeartbeats 1000000
/-! the data layer: texts, slices, stars, sorted, isinstance -/
namespace Vf
open PySem PySem.Spec PyProof.Rows L2
section
variable {X : Cx} {K : PySem.W.Frag} {W : WX}
/-- *e among arguments -/
def starA (F : DE) (Fs : DA) : DA := fun ρ P R => F ρ (fun d ρ1 => ∃ l, seqB d = some l ∧ Fs ρ1 (fun ds ρ2 => P (l ++ ds) ρ2) R) R
theorem pda_star (hK : X.K = K) {e : Expr} {es : List Expr} {p : Pos} {F : DE} {Fs : DA} (he : PD K W X e F) (hs : PDA K W X es Fs) (hst : starEach (.Starred e p :: es) X.env = (true, eval e X.env) :: starEach es X.env := by rfl) : PDA K W X (.Starred e p :: es) (starA F Fs) := by
  refine PA.imp (StX.pa_star he hs hst) fun σ H Q ⟨c, G, ρ, P, R, r, f, k, kx⟩ => ?_
  subst hK
  refine ⟨c, G, ρ, _, R, r, f, fun d ρ1 v H1 G1 f1 r1 s1 q1 => ?_, kx⟩
  obtain ⟨l, el, f1⟩ := f1
  have go : ∀ a xs, v = .ref a → (SqT X.K H1 a xs ∨ SqL X.K H1 a xs) → RpAll X.K G1 xs l → ∃ p xs, v = V.ref p ∧ (SqT X.K H1 p xs ∨ SqL X.K H1 p xs) ∧ LA X.K W Fs σ H1 fun ys H2 => Q (xs ++ ys) H2 := fun a xs e h ra =>
    ⟨a, xs, e, h, c, G1, ρ1, _, R, r1, f1, fun ds ρ2 vs H2 G2 f2 r2 s2 q2 => k _ _ _ _ _ f2 r2 (s1.trans s2) ((ra.mono s2).app q2), kx.step s1⟩
  cases d with
  | lst m =>
    cases el
    obtain ⟨a, xs, rfl, h1, ra⟩ := q1
    exact go a xs rfl (.inr (SqL.of (r1.gh _ _ h1))) ra
  | tup m =>
    cases el
    obtain ⟨a, xs, rfl, h1, ra⟩ := q1
    exact go a xs rfl (.inl (same_sqT r1.gh h1)) ra
  | _ => cases el

/-! ### f-strings -/
def fmtB : D → Option Str
  | .str z => if z.length ≤ sizeLine then some z else none
  | .int i => if i.natAbs.log2 < 1920 then some (toString i) else none
  | _ => none
def fmtD (F : DE) : DE := fun ρ P R => F ρ (fun d ρ1 => ∃ z, fmtB d = some z ∧ P (.str z) ρ1) R
theorem pd_fmt {e : Expr} {F : DE} {pos : Pos} (he : PD K W X e F) : PD K W X (.FormattedValue e (-1) none pos) (fmtD F) := by
  refine PE.imp (pe_fmt he) fun σ H Q ⟨c, G, ρ, P, R, r, f, k, kx⟩ => ?_
  refine ⟨c, G, ρ, _, R, r, f, fun d ρ1 v H1 G1 f1 r1 s1 q1 => ?_, kx⟩
  obtain ⟨z, ez, f1⟩ := f1
  cases d with
  | str y =>
    simp only [fmtB] at ez
    split at ez
    · cases ez
      rename_i hz
      exact .inl ⟨_, q1, hz, k _ _ _ _ _ f1 r1 s1 rfl⟩
    · cases ez
  | int i =>
    simp only [fmtB] at ez
    split at ez
    · cases ez
      rename_i hz
      exact .inr ⟨_, q1, hz, k _ _ _ _ _ f1 r1 s1 rfl⟩
    · cases ez
  | _ => cases ez
/-- the parts of an f-string -/
inductive PDJ (K : PySem.W.Frag) (W : WX) (X : Cx) : List Expr → List DE → Prop where
  | nil : PDJ K W X [] []
  | cons {e : Expr} {F : DE} {es : List Expr} {Fs : List DE} (h : PD K W X e F) (r : PDJ K W X es Fs) : PDJ K W X (e :: es) (F :: Fs)
def jsD : List DE → Str → Ev → (Str → Ev → Prop) → RK → Prop
  | [], acc, ρ, P, _ => P acc ρ
  | F :: Fs, acc, ρ, P, R => F ρ (fun d ρ1 => ∃ y, d = .str y ∧ (acc ++ y).length ≤ sizeLine ∧ jsD Fs (acc ++ y) ρ1 P R) R
def fstrD (Fs : List DE) : DE := fun ρ P R => jsD Fs Str.empty ρ (fun z ρ1 => P (.str z) ρ1) R
theorem pdj_pj {es : List Expr} {Fs : List DE} (h : PDJ K W X es Fs) : PJ X es (Fs.map (LE K W)) := by
  induction h with
  | nil => exact .nil
  | cons h r ih => exact .cons h ih
theorem js_go {σ : L2.St} {c : Ct} {R : RK} : ∀ {Fs : List DE} {acc : Str} {H G : Hp} {ρ : Ev} {P : Str → Ev → Prop} {Q : Str → Hp → Prop}, Rep K c σ H G ρ → jsD Fs acc ρ P R → (∀ z ρ' H' G', P z ρ' → Rep K c σ H' G' ρ' → Same G G' → Q z H') → LX K W c σ G R → tJs (Fs.map (LE K W)) acc σ H Q
  | [], acc, H, G, ρ, P, Q, r, f, k, kx => k _ _ _ _ f r (Same.refl _)
  | F :: Fs, acc, H, G, ρ, P, Q, r, f, k, kx => by
    refine ⟨c, G, ρ, _, R, r, f, fun d ρ1 v H1 G1 f1 r1 s1 q1 => ?_, kx⟩
    obtain ⟨y, rfl, hz, f1⟩ := f1
    exact ⟨y, q1, hz, js_go r1 f1 (fun z ρ' H' G' a b d => k z ρ' H' G' a b (s1.trans d)) (kx.step s1)⟩
theorem pd_fstr {v1 v2 : Expr} {rest : List Expr} {Fs : List DE} {pos : Pos} (h : PDJ K W X (v1 :: v2 :: rest) Fs) : PD K W X (.JoinedStr (v1 :: v2 :: rest) pos) (fstrD Fs) :=
  PE.imp (pe_joined (pdj_pj h)) fun σ H Q ⟨c, G, ρ, P, R, r, f, k, kx⟩ => js_go r f (fun z ρ' H' G' a b d => k _ _ _ _ _ a b d rfl) kx

/-! ### methods of texts -/
def strL : List D → Option (List Str)
  | [] => some []
  | .str z :: ds => (strL ds).map (z :: ·)
  | _ :: _ => none
theorem strL_rp {G : Hp} : ∀ {ds : List D} {zs : List Str} {xs : List V}, strL ds = some zs → RpAll K G xs ds → xs = zs.map V.str
  | [], _, _, e, h => by cases e; exact h
  | .str z :: ds, zs, _, e, h => by
    obtain ⟨x, r, rfl, q, t⟩ := h
    cases (show x = _ from q)
    unfold strL at e
    cases y : strL ds with
    | none => rw [y] at e; cases e
    | some cs => rw [y] at e; cases e; rw [List.map_cons, strL_rp y t]
theorem strL_map (zs : List Str) : strL (zs.map D.str) = some zs := by
  induction zs with
  | nil => rfl
  | cons b bs ih => rw [List.map_cons]; unfold strL; rw [ih]; rfl
theorem rp_strs {G : Hp} (zs : List Str) : RpAll K G (zs.map V.str) (zs.map D.str) := by
  induction zs with
  | nil => rfl
  | cons z zs ih => exact RpAll.cons rfl ih
/-- a.m(b) of texts -/
def m1D (g : G2) (Fo Fe : DE) : DE := fun ρ P R => Fo ρ (fun d ρ1 => (∃ a, d = .str a) ∧ Fe ρ1 (fun e ρ2 => g d e fun r => P r ρ2) R) R
theorem m1_go {g : G2} {Fo Fe : DE} {r : V → List V → Hp → VK → Prop} {σ : L2.St} {H : Hp} {Q : VK} (hr : ∀ x y H Q, RD2 K g x y H Q → r x [y] H Q) (h : LE K W (m1D g Fo Fe) σ H Q) : tM1 r (LE K W Fo) (LE K W Fe) σ H Q := by
  obtain ⟨c, G, ρ, P, R, rr, f, k, kx⟩ := h
  refine ⟨c, G, ρ, _, R, rr, f, fun d ρ1 v H1 G1 f1 r1 s1 q1 => ?_, kx⟩
  obtain ⟨⟨a, rfl⟩, f1⟩ := f1
  refine ⟨⟨a, q1⟩, c, G1, ρ1, _, R, r1, f1, fun e ρ2 w H2 G2 f2 r2 s2 q2 => ?_, kx.step s1⟩
  exact hr _ _ _ _ ⟨G2, .str a, e, _, r2.gh, q1.mono s2, q2, f2, fun x u H' G' p ex rp => k _ _ _ _ _ p (r2.ext ex) ((s1.trans s2).trans ex.g) rp⟩
def joinG : G2 := fun d e P => ∃ a l zs, d = .str a ∧ seqB e = some l ∧ strL l = some zs ∧ (zs.map (·.length)).sum + zs.length * a.length ≤ 16777216 ∧ P (.str (Txt.join a zs))
theorem pd_join (hK : X.K = K) {o e : Expr} {Fo Fe : DE} {apos pos : Pos} (ho : PD K W X o Fo) (he : PD K W X e Fe) (hs : starEach [e] X.env = [(false, eval e X.env)] := by rfl) (hbase : attributeBase o "join" X.env (eval o X.env) = eval o X.env := by rfl) (hline : (apos.endLine == pos.line) = true := by rfl) :
    PD K W X (.Call (.Attribute o "join" apos) [e] [] pos) (m1D joinG Fo Fe) := by
  refine PE.imp (pe_joinK hK ho he hs hbase hline) fun σ H Q h => m1_go (fun x y H Q h' => ?_) h
  obtain ⟨G, d, e, P, sg, rd, re, ⟨a, l, zs, ed, el, ez, hz, q⟩, kk⟩ := h'
  subst hK ed
  refine ⟨a, ?_⟩
  have fin := kk _ (.str (Txt.join a zs)) H G q (Ext.refl sg) rfl
  cases e with
  | lst m =>
    cases el
    obtain ⟨p, xs, rfl, h1, ra⟩ := re
    cases strL_rp ez ra
    exact ⟨p, zs, rd, rfl, .inl (SqL.of (sg _ _ h1)), hz, fin⟩
  | tup m =>
    cases el
    obtain ⟨p, xs, rfl, h1, ra⟩ := re
    cases strL_rp ez ra
    exact ⟨p, zs, rd, rfl, .inr (same_sqT sg h1), hz, fin⟩
  | _ => cases el
def splitG : G2 := fun d e P => ∃ a b, d = .str a ∧ e = .str b ∧ (b.length == 0) = false ∧ a.length + 2 ≤ sizeLine ∧ P (.lst ((Txt.split a b).map .str))
theorem pd_split {o e : Expr} {Fo Fe : DE} {apos pos : Pos} (ho : PD K W X o Fo) (he : PD K W X e Fe) (hs : starEach [e] X.env = [(false, eval e X.env)] := by rfl) (hbase : attributeBase o "split" X.env (eval o X.env) = eval o X.env := by rfl) (hline : (apos.endLine == pos.line) = true := by rfl) :
    PD K W X (.Call (.Attribute o "split" apos) [e] [] pos) (m1D splitG Fo Fe) := by
  refine PE.imp (pe_split ho he hs hbase hline) fun σ H Q h => m1_go (fun x y H Q h' => ?_) h
  obtain ⟨G, d, e, P, sg, rd, re, ⟨a, b, ed, ee, hb, hz, q⟩, kk⟩ := h'
  subst ed ee
  refine ⟨a, b, rd, by rw [show y = _ from re], hb, hz, fun p hp => ?_⟩
  have e := Ext.new (o := .lst ((Txt.split a b).map V.str)) sg hp
  exact kk _ _ _ _ q e ⟨p, _, rfl, upd_same, rp_strs _⟩
def partG : G2 := fun d e P => ∃ a b, d = .str a ∧ e = .str b ∧ (b.length == 0) = false ∧ a.length ≤ sizeLine ∧ P (.tup [.str (Txt.partition a b).1, .str (Txt.partition a b).2.1, .str (Txt.partition a b).2.2])
theorem pd_part {o e : Expr} {Fo Fe : DE} {apos pos : Pos} (ho : PD K W X o Fo) (he : PD K W X e Fe) (hs : starEach [e] X.env = [(false, eval e X.env)] := by rfl) (hbase : attributeBase o "partition" X.env (eval o X.env) = eval o X.env := by rfl) (hline : (apos.endLine == pos.line) = true := by rfl) :
    PD K W X (.Call (.Attribute o "partition" apos) [e] [] pos) (m1D partG Fo Fe) := by
  refine PE.imp (pe_partition ho he hs hbase hline) fun σ H Q h => m1_go (fun x y H Q h' => ?_) h
  obtain ⟨G, d, e, P, sg, rd, re, ⟨a, b, ed, ee, hb, hz, q⟩, kk⟩ := h'
  subst ed ee
  refine ⟨a, b, rd, by rw [show y = _ from re], hb, hz, fun p hp => ?_⟩
  have e := Ext.new (o := .tup [.str (Txt.partition a b).1, .str (Txt.partition a b).2.1, .str (Txt.partition a b).2.2]) sg hp
  exact kk _ _ _ _ q e ⟨p, _, rfl, SqT.of upd_same, RpAll.cons rfl (RpAll.cons rfl (RpAll.cons rfl RpAll.nil))⟩

/-! ### slices -/
abbrev DO := Ev → (Option Int → Ev → Prop) → RK → Prop
def LO (K : PySem.W.Frag) (W : WX) (F : DO) : TO := fun σ H Q => ∃ c G ρ P R, Rep K c σ H G ρ ∧ F ρ P R ∧ (∀ o ρ' H' G', P o ρ' → Rep K c σ H' G' ρ' → Same G G' → Q o H') ∧ LX K W c σ G R
abbrev PDO (K : PySem.W.Frag) (W : WX) (X : Cx) (e : Option Expr) (F : DO) : Prop := PO X e (LO K W F)
theorem PO.imp {e : Option Expr} {t t' : TO} (h : PO X e t) (m : ∀ σ H Q, t' σ H Q → t σ H Q) : PO X e t' := ⟨fun pins s σ H Q I q => h.run pins s σ H Q I (m _ _ _ q)⟩
def noO : DO := fun ρ P _ => P none ρ
def soO (F : DE) : DO := fun ρ P R => F ρ (fun d ρ1 => ∃ i, d = .int i ∧ P (some i) ρ1) R
theorem pdo_none : PDO K W X none noO := PO.imp po_none fun σ H Q ⟨c, G, ρ, P, R, r, f, k, kx⟩ => k _ _ _ _ f r (Same.refl _)
theorem pdo_some {e : Expr} {F : DE} (he : PD K W X e F) : PDO K W X (some e) (soO F) := by
  refine PO.imp (po_some he) fun σ H Q ⟨c, G, ρ, P, R, r, f, k, kx⟩ => ?_
  refine ⟨c, G, ρ, _, R, r, f, fun d ρ1 v H1 G1 f1 r1 s1 q1 => ?_, kx⟩
  obtain ⟨i, rfl, f1⟩ := f1
  exact ⟨i, q1, k _ _ _ _ f1 r1 s1⟩
def cutL {α : Type} (xs : List α) (lo hi : Option Int) : List α := (xs.drop (HT.sIx xs.length 0 lo)).take (HT.sIx xs.length xs.length hi - HT.sIx xs.length 0 lo)
theorem rp_cut {G : Hp} {xs : List V} {l : List D} {lo hi : Option Int} (r : RpAll K G xs l) : RpAll K G (cutV xs lo hi) (cutL l lo hi) := by
  unfold cutV cutL
  rw [r.len]
  exact (r.drop _).take _
def slB : D → Option Int → Option Int → Option D
  | .lst l, lo, hi => some (.lst (cutL l lo hi))
  | .tup l, lo, hi => if HT.sIx l.length 0 lo = 0 ∧ HT.sIx l.length l.length hi = l.length then none else some (.tup (cutL l lo hi))
  | .str z, lo, hi => if z.length ≤ sizeLine then some (.str (cutS z lo hi)) else none
  | _, _, _ => none
def slcD (F : DE) (Fl Fh : DO) : DE := fun ρ P R => F ρ (fun d ρ1 => Fl ρ1 (fun lo ρ2 => Fh ρ2 (fun hi ρ3 => ∃ x, slB d lo hi = some x ∧ P x ρ3) R) R) R
theorem pd_slice (hK : X.K = K) {e : Expr} {lo hi : Option Expr} {F : DE} {Fl Fh : DO} {p2 pos : Pos} (he : PD K W X e F) (hl : PDO K W X lo Fl) (hh : PDO K W X hi Fh) : PD K W X (.Subscript e (.Slice lo hi none p2) pos) (slcD F Fl Fh) := by
  refine PE.imp (pe_slice (SlR.or sl_list (SlR.or sl_tup sl_str)) he hl hh) fun σ H Q ⟨c, G, ρ, P, R, r, f, k, kx⟩ => ?_
  subst hK
  refine ⟨c, G, ρ, _, R, r, f, fun d ρ1 v H1 G1 f1 r1 s1 q1 => ?_, kx⟩
  refine ⟨c, G1, ρ1, _, R, r1, f1, fun l ρ2 H2 G2 f2 r2 s2 => ?_, kx.step s1⟩
  refine ⟨c, G2, ρ2, _, R, r2, f2, fun u ρ3 H3 G3 f3 r3 s3 => ?_, (kx.step s1).step s2⟩
  obtain ⟨x, ex, f3⟩ := f3
  have q3 := (q1.mono s2).mono s3
  have s13 := (s1.trans s2).trans s3
  cases d with
  | lst m =>
    cases ex
    obtain ⟨a, xs, rfl, h1, ra⟩ := q3
    refine .inl ⟨a, xs, rfl, SqL.of (r3.gh _ _ h1), fun p hp => ?_⟩
    have e := Ext.new (o := .lst (cutV xs l u)) r3.gh hp
    exact k _ _ _ _ _ f3 (r3.ext e) (s13.trans e.g) ⟨p, _, rfl, upd_same, (rp_cut ra).mono e.g⟩
  | tup m =>
    simp only [slB] at ex
    split at ex
    · cases ex
    · rename_i hw
      cases ex
      obtain ⟨a, xs, rfl, h1, ra⟩ := q3
      refine .inr (.inl ⟨a, xs, rfl, same_sqT r3.gh h1, by rw [ra.len]; exact hw, fun p hp => ?_⟩)
      have e := Ext.new (o := .tup (cutV xs l u)) r3.gh hp
      exact k _ _ _ _ _ f3 (r3.ext e) (s13.trans e.g) ⟨p, _, rfl, SqT.of upd_same, (rp_cut ra).mono e.g⟩
  | str z =>
    simp only [slB] at ex
    split at ex
    · rename_i hz
      cases ex
      exact .inr (.inr ⟨z, q3, hz, k _ _ _ _ _ f3 r3 s13 rfl⟩)
    · cases ex
  | _ => cases ex

/-! ### sorted -/
def triD' (t : Tri) : D := .tup [.str t.1, .str t.2.1, .int t.2.2]
def tris : List D → Option (List Tri)
  | [] => some []
  | .tup [.str a, .str b, .int c] :: ds => (tris ds).map ((a, b, c) :: ·)
  | _ :: _ => none
theorem tris_map (ts : List Tri) : tris (ts.map triD') = some ts := by
  induction ts with
  | nil => rfl
  | cons b bs ih => rw [List.map_cons]; unfold triD' tris; rw [show List.map (fun t : Tri => D.tup [.str t.1, .str t.2.1, .int t.2.2]) bs = bs.map triD' from rfl, ih]; rfl
theorem tris_rp {G : Hp} : ∀ {ds : List D} {ts : List Tri} {xs : List V}, tris ds = some ts → RpAll K G xs ds → ∃ ks : List (Addr × Tri), ks.map (·.2) = ts ∧ xs = (ks.map fun p => V.ref p.1) ∧ ∀ p ∈ ks, TriAt K G p
  | [], _, _, e, h => by cases e; exact ⟨[], rfl, h, fun _ z => nomatch z⟩
  | .tup [.str a, .str b, .int c] :: ds, ts, _, e, h => by
    obtain ⟨x, r, rfl, ⟨p, ys, rfl, hq, ⟨y1, r1, rfl, rfl, y2, r2, rfl, rfl, y3, r3, rfl, rfl, rfl⟩⟩, t⟩ := h
    unfold tris at e
    cases z : tris ds with
    | none => rw [z] at e; cases e
    | some cs =>
      rw [z] at e
      cases e
      obtain ⟨ks, e1, rfl, hk⟩ := tris_rp z t
      refine ⟨(p, a, b, c) :: ks, by rw [List.map_cons, e1], rfl, fun q hq' => ?_⟩
      rcases List.mem_cons.mp hq' with rfl | hq'
      · exact hq
      · exact hk q hq'
theorem rp_tris {G : Hp} {ks : List (Addr × Tri)} (h : ∀ p ∈ ks, TriAt K G p) : RpAll K G (ks.map fun p => V.ref p.1) ((ks.map (·.2)).map triD') := by
  induction ks with
  | nil => rfl
  | cons k ks ih =>
    refine RpAll.cons ⟨k.1, _, rfl, h k List.mem_cons_self, RpAll.cons rfl (RpAll.cons rfl (RpAll.cons rfl RpAll.nil))⟩ (ih fun p hp => h p (List.mem_cons_of_mem _ hp))
def sortG : Gn := one fun d P => ∃ l, seqB d = some l ∧ ((∃ zs, strL l = some zs ∧ ∀ ys, ys.Perm zs → Asc ltS ys → P (.lst (ys.map .str))) ∨ (∃ ts, tris l = some ts ∧ ∀ us, us.Perm ts → Asc ltT us → P (.lst (us.map triD'))))
theorem rp_seqE {G H : Hp} {d : D} {l : List D} {v : V} (sg : Same G H) (e : seqB d = some l) (h : Rp K G v d) : ∃ a xs, v = .ref a ∧ SeqE K H a xs ∧ RpAll K G xs l := by
  cases d with
  | lst m =>
    cases e
    obtain ⟨a, xs, rfl, h1, ra⟩ := h
    exact ⟨a, xs, rfl, .inl (SqL.of (sg _ _ h1)), ra⟩
  | tup m =>
    cases e
    obtain ⟨a, xs, rfl, h1, ra⟩ := h
    exact ⟨a, xs, rfl, .inr (same_sqT sg h1), ra⟩
  | _ => cases e
theorem do_sort (hK : X.K = K) : CallR X (.builtin "sorted") (RDn K sortG) := by
  refine call_one fun pins s σ H v us Q I rv ⟨G, d, P, sg, rd, ⟨l, el, q⟩, kk⟩ => ?_
  subst hK
  obtain ⟨a, xs, rfl, hs, ra⟩ := rp_seqE sg el rd
  rcases q with ⟨zs, ez, q⟩ | ⟨ts, et, q⟩
  · cases strL_rp ez ra
    refine cr_sortTx pins s σ H _ us Q I rv ⟨a, zs, rfl, hs, fun ys p py ay hp => ?_⟩
    have e := Ext.new (o := .lst (ys.map V.str)) sg hp
    exact kk _ _ _ _ (q ys py ay) e ⟨p, _, rfl, upd_same, rp_strs _⟩
  · obtain ⟨ks, rfl, rfl, hk⟩ := tris_rp et ra
    refine cr_sortTri pins s σ H _ us Q I rv ⟨a, ks, rfl, hs, fun p hp => same_sqT sg (hk p hp), fun ys p py ay hp => ?_⟩
    have e := Ext.new (o := .lst (ys.map fun p => V.ref p.1)) sg hp
    refine kk _ _ _ _ (q (ys.map (·.2)) (py.map _) ay) e ⟨p, _, rfl, upd_same, rp_tris fun p' hp' => same_sqT e.g (hk p' (py.mem_iff.mp hp'))⟩

/-! ### isinstance -/
theorem tyX_seqT {H : Hp} {a : Addr} {xs : List V} (h : SqT K H a xs) : TyX K H (.ref a) (.type "tuple") := by
  rcases h with (h | ⟨o, h⟩) | ⟨o, its, n, h, hc, _⟩
  · exact .base (.tup h)
  · exact .fTuple h
  · exact .kTuple h hc
/-- what is known of the program's own classes -/
structure ClsTab (K : PySem.W.Frag) (cs : List Addr) : Prop where
  ty : ∀ C ∈ cs, ∀ (H : Hp) (a dx : Addr) (us : List (Str × V)), H a = some (.ins C dx us) → TyX K H (.ref a) (.ref C)
  no : ∀ C ∈ cs, ∀ n ∈ ["str", "int", "bool", "list", "tuple"], PySem.W.kitOne K (.ref C) (.type n) = some false
  own : ∀ C ∈ cs, ∀ C' ∈ cs, PySem.W.kitOne K (.ref C) (.ref C') = some (C == C')
  data : ∀ C ∈ cs, ∀ n ∈ ["str", "int", "bool", "list", "tuple", "NoneType", "dict"], PySem.W.kitOne K (.type n) (.ref C) = some false
/-- the name of a built-in's class -/
def tyN : D → Option String
  | .non => some "NoneType"
  | .bl _ => some "bool"
  | .int _ => some "int"
  | .str _ => some "str"
  | .lst _ => some "list"
  | .tup _ => some "tuple"
  | .dcK _ _ => some "dict"
  | .dcT _ _ => some "dict"
  | _ => none
/-- whether d is of the class n, of the class at C -/
def isTy (d : D) (n : String) : Bool := match d with
  | .bl _ => n == "bool" || n == "int"
  | _ => tyN d == some n
def isC (d : D) (C : Addr) : Bool := match d with
  | .ins C' _ _ => C' == C
  | _ => false
def okTy (cs : List Addr) : D → Bool
  | .ins C _ _ => cs.contains C
  | d => (tyN d).isSome
def isOne (cs : List Addr) (d c : D) : Option Bool := if okTy cs d then match c with
  | .ty n => if ["str", "int", "bool", "list", "tuple"].contains n then some (isTy d n) else none
  | .obj C => if cs.contains C then some (isC d C) else none
  | _ => none else none
theorem kit_bool : ∀ n ∈ ["str", "int", "bool", "list", "tuple"], kitB "bool" n = some (n == "bool" || n == "int") := by decide +kernel
theorem kit_plain : ∀ m ∈ ["NoneType", "int", "str", "list", "tuple", "dict"], ∀ n ∈ ["str", "int", "bool", "list", "tuple"], kitB m n = some (m == n) := by decide +kernel
theorem kit_ok {cs : List Addr} (T : ClsTab K cs) {G H : Hp} {d : D} {v : V} (sg : Same G H) (rd : Rp K G v d) (ok : okTy cs d = true) : ∃ t, TyX K H v t ∧ ∀ c w b, Rp K G w c → isOne cs d c = some b → ∃ u, ClsV w u ∧ PySem.W.kitOne K t u = some b := by
  have tyd : (∃ n, tyN d = some n ∧ TyX K H v (.type n)) ∨ ∃ C ns ds, d = .ins C ns ds ∧ C ∈ cs ∧ TyX K H v (.ref C) := by
    cases d with
    | non => cases (show v = _ from rd); exact .inl ⟨_, rfl, .base .non⟩
    | bl b => cases (show v = _ from rd); exact .inl ⟨_, rfl, .base (.bl b)⟩
    | int b => cases (show v = _ from rd); exact .inl ⟨_, rfl, .base (.int b)⟩
    | str b => cases (show v = _ from rd); exact .inl ⟨_, rfl, .base (.str b)⟩
    | lst l => obtain ⟨a, xs, rfl, h, _⟩ := rd; exact .inl ⟨_, rfl, .base (.lst (sg _ _ h))⟩
    | tup l => obtain ⟨a, xs, rfl, h, _⟩ := rd; exact .inl ⟨_, rfl, tyX_seqT (same_sqT sg h)⟩
    | dcK ks ds => obtain ⟨a, xs, rfl, h, _⟩ := rd; exact .inl ⟨_, rfl, .base (.dK (sg _ _ h))⟩
    | dcT ks ds => obtain ⟨a, xs, rfl, h, _⟩ := rd; exact .inl ⟨_, rfl, .base (.dT (sg _ _ h))⟩
    | ins C ns ds =>
      obtain ⟨a, dx, us, rfl, h, _⟩ := rd
      have hC : C ∈ cs := by simpa [okTy] using ok
      exact .inr ⟨C, ns, ds, rfl, hC, T.ty C hC H a dx us (sg _ _ h)⟩
    | _ => cases ok
  have red : ∀ c b, isOne cs d c = some b → (match c with
      | .ty n => if ["str", "int", "bool", "list", "tuple"].contains n then some (isTy d n) else none
      | .obj C => if cs.contains C then some (isC d C) else none
      | _ => none) = some b := fun c b e => by
    unfold isOne at e
    rw [if_pos ok] at e
    exact e
  rcases tyd with ⟨m, em, ty⟩ | ⟨C', ns, ds, rfl, hC, ty⟩
  · refine ⟨_, ty, fun c w b rc e => ?_⟩
    have e := red c b e
    cases c with
    | ty n =>
      cases (show w = _ from rc)
      simp only at e
      split at e
      · rename_i hn
        cases e
        have hn' : n ∈ ["str", "int", "bool", "list", "tuple"] := by simpa using hn
        refine ⟨_, .ty n, kit_ty ?_⟩
        cases d with
        | bl b =>
          cases em
          exact kit_bool n hn'
        | _ =>
          first
            | cases em
            | skip
          all_goals
            refine (kit_plain _ (by decide) n hn').trans ?_
            simp only [isTy, tyN]
            rfl
      · cases e
    | obj C =>
      cases (show w = _ from rc)
      simp only at e
      split at e
      · rename_i hc
        cases e
        have hc' : C ∈ cs := by simpa using hc
        refine ⟨_, .own C, ?_⟩
        have hm : m ∈ ["str", "int", "bool", "list", "tuple", "NoneType", "dict"] := by cases d <;> cases em <;> decide
        rw [T.data C hc' m hm]
        cases d <;> cases em <;> rfl
      · cases e
    | _ => cases e
  · refine ⟨_, ty, fun c w b rc e => ?_⟩
    have e := red c b e
    cases c with
    | ty n =>
      cases (show w = _ from rc)
      simp only at e
      split at e
      · rename_i hn
        cases e
        have hn' : n ∈ ["str", "int", "bool", "list", "tuple"] := by simpa using hn
        refine ⟨_, .ty n, ?_⟩
        rw [T.no C' hC n hn']
        rfl
      · cases e
    | obj C =>
      cases (show w = _ from rc)
      simp only at e
      split at e
      · rename_i hc
        cases e
        have hc' : C ∈ cs := by simpa using hc
        refine ⟨_, .own C, ?_⟩
        rw [T.own C' hC C hc']
        rfl
      · cases e
    | _ => cases e
theorem ok_one {cs : List Addr} {d c : D} {b : Bool} (e : isOne cs d c = some b) : okTy cs d = true := by
  unfold isOne at e
  split at e
  · assumption
  · cases e
def isiG (cs : List Addr) : Gn := two fun d c P => ∃ b, isOne cs d c = some b ∧ P (.bl b)
theorem do_isi {cs : List Addr} (hK : X.K = K) (T : ClsTab K cs) : CallR X (.builtin "isinstance") (RDn K (isiG cs)) := by
  refine call_two fun pins s σ H v w us Q I rv ⟨G, d, c, P, sg, rd, rc, ⟨b, eb, q⟩, kk⟩ => ?_
  subst hK
  obtain ⟨t, ty, h⟩ := kit_ok T sg rd (ok_one eb)
  obtain ⟨u, cl, e⟩ := h c w b rc eb
  exact call_isi pins s σ H _ us Q I rv ⟨v, w, t, u, b, rfl, cl, ty, e, kk _ _ _ _ q (Ext.refl sg) rfl⟩
/-- isinstance(e, (c1, c2)) -/
def isiT (cs : List Addr) (c1 c2 : D) (F : DE) : DE := fun ρ P R => F ρ (fun d ρ1 => ∃ b1 b2, isOne cs d c1 = some b1 ∧ isOne cs d c2 = some b2 ∧ P (.bl (b1 || b2)) ρ1) R
theorem pd_isiT {cs : List Addr} (hK : X.K = K) (T : ClsTab K cs) {e e1 e2 : Expr} {F : DE} {v1 v2 : V} {c1 c2 : D} {p tpos pos : Pos} {kk} (hm : X.mg "isinstance" = none) (he : PD K W X e F) (h1 : PE X e1 (tC v1)) (h2 : PE X e2 (tC v2)) (r1 : ∀ G, Rp K G v1 c1) (r2 : ∀ G, Rp K G v2 c2) (hg : Gl X "isinstance" := by rfl)
    (hst : starEach [e1, e2] X.env = (false, eval e1 X.env) :: starEach [e2] X.env := by rfl) (hst2 : starEach [e2] X.env = (false, eval e2 X.env) :: starEach [] X.env := by rfl) (hst3 : starEach [e, .Tuple [e1, e2] kk tpos] X.env = (false, eval e X.env) :: starEach [.Tuple [e1, e2] kk tpos] X.env := by rfl)
    (hst4 : starEach [.Tuple [e1, e2] kk tpos] X.env = (false, eval (.Tuple [e1, e2] kk tpos) X.env) :: starEach [] X.env := by rfl) (hpl : (backTo pos (starEach [.Tuple [e1, e2] kk tpos] X.env)).any (·.1) = false := by rfl) :
    PD K W X (.Call (.Name "isinstance" p) [e, .Tuple [e1, e2] kk tpos] [] pos) (isiT cs c1 c2 F) := by
  refine PE.imp (pe_callB call_isiT hg hm (by decide +kernel) (pa_cons he (pa_cons (pe_tup (pa_cons h1 (pa_cons h2 pa_nil hst2) hst)) pa_nil hst4) hst3) (by decide) (by decide) hst3 hpl) fun σ H Q ⟨c, G, ρ, P, R, r, f, k, kx⟩ => ?_
  subst hK
  refine ⟨c, G, ρ, _, R, r, f, fun d ρ1 v H1 G1 f1 r1' s1 q1 => ⟨by show 2 ≤ sizeLine; decide, fun tp htp => ?_⟩, kx⟩
  obtain ⟨b1, b2, eb1, eb2, f1⟩ := f1
  have ex := Ext.tmp r1'.gh (same_new (o := .tup [v1, v2]) htp)
  obtain ⟨t, ty, h⟩ := kit_ok T (Same.trans r1'.gh (same_new (o := .tup [v1, v2]) htp)) q1 (ok_one eb1)
  obtain ⟨u1, cl1, k1⟩ := h c1 v1 b1 (r1 G1) eb1
  obtain ⟨u2, cl2, k2⟩ := h c2 v2 b2 (r2 G1) eb2
  refine ⟨v, tp, [v1, v2], t, [u1, u2], b1 || b2, rfl, upd_same, .cons cl1 (.cons cl2 .nil), ty, ?_, k _ _ _ _ _ f1 (r1'.ext ex) s1 rfl⟩
  refine kitAny_cons k1 (fun e => ?_) (fun e => by rw [e]; rfl)
  rw [e, Bool.false_or]
  exact kitAny_cons k2 (fun e => by rw [e]; exact kitAny_nil) fun e => e
/-- a < b < c, the last asked if it is so far -/
def chnD (g h : G2) (A B C : DE) : DE := fun ρ P R => A ρ (fun a ρ1 => B ρ1 (fun b ρ2 => g a b fun z => ∃ k, z = .bl k ∧ if k = true then C ρ2 (fun c ρ3 => h b c fun r => P r ρ3) R else P (.bl false) ρ2) R) R
theorem chn_go {g h : G2} {A B C : DE} {σ : L2.St} {H : Hp} {Q : VK} (q : LE K W (chnD g h A B C) σ H Q) : tChain (RD2 K g) (RD2 K h) (LE K W A) (LE K W B) (LE K W C) σ H Q := by
  obtain ⟨c, G, ρ, P, R, r, f, k, kx⟩ := q
  refine ⟨c, G, ρ, _, R, r, f, fun d ρ1 v H1 G1 f1 r1 s1 q1 => ?_, kx⟩
  refine ⟨c, G1, ρ1, _, R, r1, f1, fun e ρ2 w H2 G2 f2 r2 s2 q2 => ?_, kx.step s1⟩
  refine ⟨G2, d, e, _, r2.gh, q1.mono s2, q2, f2, fun z u H3 G3 f3 ex rp => ?_⟩
  obtain ⟨b, rfl, f3⟩ := f3
  refine ⟨b, rp, ?_⟩
  have r3 := r2.ext ex
  have s13 := (s1.trans s2).trans ex.g
  cases b with
  | false => exact k _ _ _ _ _ f3 r3 s13 rfl
  | true =>
    refine ⟨c, G3, ρ2, _, R, r3, f3, fun x ρ4 y H4 G4 f4 r4 s4 q4 => ?_, kx.step s13⟩
    exact ⟨G4, e, x, _, r4.gh, (q2.mono ex.g).mono s4, q4, f4, fun z u H5 G5 p ex5 rp => k _ _ _ _ _ p (r4.ext ex5) ((s13.trans s4).trans ex5.g) rp⟩
theorem pd_chn {a b c : Expr} {op op' : CmpOp} {pos : Pos} {g h : G2} {A B C : DE} (ho : OpR X (compareOp op) (RD2 K g)) (ho' : OpR X (compareOp op') (RD2 K h)) (ha : PD K W X a A) (hb : PD K W X b B) (hc : PD K W X c C) (hm : lastMarks [op, op'] [b, c] = false := by with_unfolding_all rfl) :
    PD K W X (.Compare a [op, op'] [b, c] pos) (chnD g h A B C) := PE.imp (pe_chain ho ho' ha hb hc hm) fun _ _ _ q => chn_go q
theorem pdt_chn {a b c : Expr} {op op' : CmpOp} {pos : Pos} {g h : G2} {A B C : DE} (ho : OpR X (compareOp op) (RD2 K g)) (ho' : OpR X (compareOp op') (RD2 K h)) (ha : PD K W X a A) (hb : PD K W X b B) (hc : PD K W X c C) (hm : lastMarks [op, op'] [b, c] = false := by with_unfolding_all rfl) :
    PDT K W X (.Compare a [op, op'] [b, c] pos) (tstD (chnD g h A B C)) := PT.imp (pt_chain ho ho' ha hb hc hm) fun _ _ _ q => chn_go q.tst

/-! ### what is called, by its name -/
structure Cal0 (P : Program) (w : World) (K : PySem.W.Frag) (mg : Str → Option Value) (base : Heap) (x : Str) (k n : Nat) (M : Mc) : Prop where
  ex : ∃ f fd ps, FnOk P w K mg base CX0 k f fd ps (spD K n M) ∧ mg x = some (.ref f) ∧ PySem.W.keepIn K (.ref f) = true ∧ Binds K fd ps []
structure CalX (P : Program) (w : World) (K : PySem.W.Frag) (mg : Str → Option Value) (base : Heap) (x : Str) (k n : Nat) (M : Mc) : Prop where
  ex : ∃ f fd ps, FnOk P w K mg base (L2.CX P w) k f fd ps (spD K n M) ∧ mg x = some (.ref f) ∧ PySem.W.keepIn K (.ref f) = true ∧ Binds K fd ps []
structure CalDl (P : Program) (w : World) (K : PySem.W.Frag) (mg : Str → Option Value) (base : Heap) (x : Str) (k n : Nat) (M : Md) : Prop where
  ex : ∃ f fd ps, FnOk P w K mg base CX0 k f fd ps (spDl K n M) ∧ mg x = some (.ref f) ∧ PySem.W.keepIn K (.ref f) = true ∧ Binds K fd ps []
structure CalM (P : Program) (w : World) (K : PySem.W.Frag) (mg : Str → Option Value) (base : Heap) (C : Addr) (m : Str) (k n : Nat) (M : Mc) : Prop where
  ex : ∃ f fd ps, FnOk P w K mg base CX0 k f fd ps (spD K n M) ∧ Cls K C ∧ Meth K C m f ∧ Binds K fd ps []
structure CalI (P : Program) (w : World) (K : PySem.W.Frag) (mg : Str → Option Value) (base : Heap) (x : Str) (C : Addr) (k n : Nat) (M : Mi) : Prop where
  ex : ∃ f fd ps, FnOk P w K mg base CX0 k f fd ps (spI K C n M) ∧ Mk K C f ∧ mg x = some (.ref C) ∧ Binds K fd ps []
theorem pd_cal {x : Str} {k n : Nat} {M : Mc} {p pos : Pos} {e : Expr} {es : List Expr} {Fs : DA} (C : Cal0 X.prog X.w X.K X.mg X.base x k n M) (hr : Room k X.A) (ha : PDA K W X (e :: es) Fs) (hK : X.K = K := by rfl) (hg : Gl X x := by rfl) (hdb : (x == ("__debug__" : Str)) = false := by decide)
    (he : starEach (e :: es) X.env = (false, eval e X.env) :: starEach es X.env := by rfl) (hpl : (backTo pos (starEach es X.env)).any (·.1) = false := by rfl) : PD K W X (.Call (.Name x p) (e :: es) [] pos) (callD (lenM n M) Fs) := by
  subst hK
  obtain ⟨f, fd, ps, F, hm, hk, hb⟩ := C.ex
  exact pd_call F hr hm hk hb ha hg hdb he hpl
theorem pd_calX {x : Str} {k n : Nat} {M : Mc} {p pos : Pos} {e : Expr} {es : List Expr} {Fs : DA} (tk : Takes X W) (C : CalX X.prog X.w X.K X.mg X.base x k n M) (hr : Room k X.A) (ha : PDA K W X (e :: es) Fs) (hK : X.K = K := by rfl) (hg : Gl X x := by rfl) (hdb : (x == ("__debug__" : Str)) = false := by decide)
    (he : starEach (e :: es) X.env = (false, eval e X.env) :: starEach es X.env := by rfl) (hpl : (backTo pos (starEach es X.env)).any (·.1) = false := by rfl) : PD K W X (.Call (.Name x p) (e :: es) [] pos) (callXD (lenM n M) Fs) := by
  subst hK
  obtain ⟨f, fd, ps, F, hm, hk, hb⟩ := C.ex
  exact pd_callX tk F hr hm hk hb ha hg hdb he hpl
theorem pd_calDl {x : Str} {k n i : Nat} {M : Md} {y : Str} {py p pos : Pos} {es : List Expr} {Fs : DA} (C : CalDl X.prog X.w X.K X.mg X.base x k n M) (hr : Room k X.A) (hv : PE X (.Name y py) (tVar i)) (ha : PDA K W X es Fs) (hK : X.K = K := by rfl) (hg : Gl X x := by rfl) (hdb : (x == ("__debug__" : Str)) = false := by decide)
    (he : starEach (.Name y py :: es) X.env = (false, eval (.Name y py) X.env) :: starEach es X.env := by rfl) (hpl : (backTo pos (starEach es X.env)).any (·.1) = false := by rfl) : PD K W X (.Call (.Name x p) (.Name y py :: es) [] pos) (callDl i n M Fs) := by
  subst hK
  obtain ⟨f, fd, ps, F, hm, hk, hb⟩ := C.ex
  exact pd_callDl F hr hm hk hb hv ha hg hdb he hpl
theorem pd_calM {C : Addr} {m : Str} {k n : Nat} {M : Mc} {pos apos : Pos} {o e : Expr} {es : List Expr} {Fo : DE} {Fs : DA} {pl : Sem Bool} (T : CalM X.prog X.w X.K X.mg X.base C m k n M) (hr : Room k X.A) (ho : PD K W X o Fo) (ha : PDA K W X (e :: es) Fs) (hK : X.K = K := by rfl)
    (hst : starEach (e :: es) X.env = (false, eval e X.env) :: starEach es X.env := by rfl) (hpl : (backTo pos (starEach es X.env)).any (·.1) = false := by rfl)
    (ht : eval (.Call (.Attribute o m apos) (e :: es) [] pos) X.env = (do
      let ov ← eval o X.env
      standAt apos.atName
      let (f, first) ← holding [ov] (getMethod ov m pl)
      callWith pos f first (backTo pos (starEach (e :: es) X.env)) (backToKw pos (keywordEach [] X.env))) := by rfl) : PD K W X (.Call (.Attribute o m apos) (e :: es) [] pos) (methD C m n M Fo Fs) := by
  subst hK
  obtain ⟨f, fd, ps, F, c, hm, hb⟩ := T.ex
  exact pd_meth c hm F hr hb ho ha hst hpl ht
theorem pd_calI {x : Str} {C : Addr} {k n : Nat} {M : Mi} {p pos : Pos} {e : Expr} {es : List Expr} {Fs : DA} (T : CalI X.prog X.w X.K X.mg X.base x C k n M) (hr : Room (k + 1) X.A) (ha : PDA K W X (e :: es) Fs) (hK : X.K = K := by rfl) (hg : Gl X x := by rfl) (hdb : (x == ("__debug__" : Str)) = false := by decide)
    (he : starEach (e :: es) X.env = (false, eval e X.env) :: starEach es X.env := by rfl) (hpl : (backTo pos (starEach es X.env)).any (·.1) = false := by rfl) : PD K W X (.Call (.Name x p) (e :: es) [] pos) (makeD C n M Fs) := by
  subst hK
  obtain ⟨f, fd, ps, F, mk, hm, hb⟩ := T.ex
  exact pd_make mk F hr hm hb ha hg hdb he hpl
theorem u65 {k : Nat} {A : Around} (r : Room k A) : A.units + 65 < cLine := by have := r.un; omega
end
def isStrD : D → Bool | .str _ => true | _ => false
def isIntD : D → Bool | .int _ => true | .bl _ => true | _ => false
def isBoolD : D → Bool | .bl _ => true | _ => false
def isLstD : D → Bool | .lst _ => true | _ => false
def isTupD : D → Bool | .tup _ => true | _ => false
section
variable {cs : List Addr} {d : D}
theorem len_str {z : Str} (h : z.length ≤ sizeLine) : lenB (.str z) = some z.length := if_pos h
theorem one_str (ok : okTy cs d = true) : isOne cs d (.ty "str") = some (isStrD d) := by
  unfold isOne
  rw [if_pos ok]
  cases d <;> rfl
theorem one_int (ok : okTy cs d = true) : isOne cs d (.ty "int") = some (isIntD d) := by
  unfold isOne
  rw [if_pos ok]
  cases d <;> rfl
theorem one_bool (ok : okTy cs d = true) : isOne cs d (.ty "bool") = some (isBoolD d) := by
  unfold isOne
  rw [if_pos ok]
  cases d <;> rfl
theorem one_lst (ok : okTy cs d = true) : isOne cs d (.ty "list") = some (isLstD d) := by
  unfold isOne
  rw [if_pos ok]
  cases d <;> rfl
theorem one_tup (ok : okTy cs d = true) : isOne cs d (.ty "tuple") = some (isTupD d) := by
  unfold isOne
  rw [if_pos ok]
  cases d <;> rfl
theorem one_cls {C : Addr} (ok : okTy cs d = true) (h : C ∈ cs) : isOne cs d (.obj C) = some (isC d C) := by
  unfold isOne
  rw [if_pos ok]
  have e : cs.contains C = true := by simpa using h
  show (if cs.contains C = true then some (isC d C) else none) = _
  rw [if_pos e]
end
end Vf

set_option Elab.async false
set_option linter.all false
set_option maxRecDepth 100000
set_option maxHeartbeats 1000000
/-! basics -/
namespace Vf
open PySem PySem.Spec PyProof.Rows L2
/-- the built-ins are still what they were -/
structure Bt (mg : Str → Option Value) : Prop where
  int : mg "int" = none
  abs : mg "abs" = none
  len : mg "len" = none
  range : mg "range" = none
  tuple : mg "tuple" = none
  list : mg "list" = none
  set : mg "set" = none
  sorted : mg "sorted" = none
  min : mg "min" = none
  max : mg "max" = none
  all : mg "all" = none
  isinstance : mg "isinstance" = none
  str : mg "str" = none
  bool : mg "bool" = none
  enumerate : mg "enumerate" = none
  repr : mg "repr" = none
  type : mg "type" = none
  any : mg "any" = none
  sum : mg "sum" = none
  zip : mg "zip" = none
  reversed : mg "reversed" = none
  dict : mg "dict" = none
  ValueError : mg "ValueError" = none
  KeyError : mg "KeyError" = none
  IndexError : mg "IndexError" = none
structure Df (K : PySem.W.Frag) (mg : Str → Option Value) (x : Str) (st : Stmt) (ps : List Str) (f : Addr) (d : FuncData) : Prop where
  F : Fun K x x st f d
  b : Binds K d ps []
  g : mg x = some (.ref f)
def keptL : List Str := ["at", "go", "ahead", "trace", "limit", "work"]
def letterL : Str := "abcdefghijklmnopqrstuvwxyz"
def nameB (z : Str) : Bool := (decide (1 ≤ z.length) && decide (z.length ≤ 6)) && (!(keptL.any fun y => y == z) && (z.cps.toList.map fun c => decide (c ∈ letterL.cps.toList)).all id)
def isNameD : D → Bool
  | .str z => nameB z
  | _ => false
/-- the module's constants -/
structure Cn (K : PySem.W.Frag) (mg : Str → Option Value) : Prop where
  ex : ∃ (t1 t2 : Tok) (kw : Addr), mg "LETTERS" = some (.str letterL t1) ∧ mg "LONGEST_NAME" = some (.int 6 t2) ∧ mg "KEPT_WORDS" = some (.ref kw) ∧ ∀ G, Rp K G (.ref kw) (.tup (keptL.map .str))
/-- texts are not too long -/
def strSm (d : D) : Prop := match d with
  | .str z => z.length ≤ sizeLine
  | _ => True
section
variable {P : Program} {w : World} {K : PySem.W.Frag} {mg : Str → Option Value} {base : Heap} {cs : List Addr}
def isNameM (cs : List Addr) : Mc := fun ds P _ => ∃ d, ds = [d] ∧ okTy cs d = true ∧ strSm d ∧ P (.bl (isNameD d))
abbrev nIsName : List Str := ["value", "letter"]
theorem scIsName : FnScope nIsName ["value"] (defScope sIsName) := ⟨rfl, rfl, rfl, by decide +kernel, rfl, by decide +kernel, by decide +kernel⟩
theorem cal_isName {f : Addr} {fd : FuncData} (F : Df K mg "is_name" sIsName ["value"] f fd) (B : Bt mg) (C : Cn K mg) (TC : ClsTab K cs) : Cal0 P w K mg base "is_name" 1 1 (isNameM cs) := by
  obtain ⟨t1, t2, kw, g1, g2, g3, hk⟩ := C.ex
  refine ⟨f, fd, _, okD F.F scIsName rfl (fun cdv A outer s H E hr => ?_), F.g, F.F.kp, F.b⟩
  refine ⟨_, (pds_cons (pds_if (pdt_w (pdw_or (pdt_not (pdt_val (pd_blt (do_isi rfl TC) B.isinstance (pda_cons (pd_var 0) (pda_cons (pd_con (pe_bltn (v := .ty "str") (by rfl) B.str (by decide +kernel) rfl) (fun _ => rfl) (d := .ty "str")) pda_nil))))) (pdw_or1 (pdt_not (pdt_chn do_le do_le pd_int (pd_blt (do_len rfl) B.len (pda_cons (pd_var 0) pda_nil)) (pd_glob (v := .int 6) (d := .int 6) (fun _ => rfl) rfl g2 ⟨_, rfl⟩))))))
      (pds_one (pds_ret pd_bl)) pds_nil)
      (pds_one (pds_ret (pd_and (pd_cmp (do_nin rfl (u65 hr)) (pd_var 0) (pd_glob (v := .ref kw) (d := .tup (keptL.map .str)) hk rfl g3 rfl)) (pd_one (pd_blt (do_all rfl rfl) B.all (pda_cons (pd_fr (pf_lc (own := [("letter", 1)]) (W' := fun _ _ _ _ => False) scIsName.nd (pdi_str (pd_var 0)) (blkOk_by (N := nIsName) (sc := defScope sIsName) (by decide +kernel)) (fun _ _ _ _ _ => (pg_name (i := 1) scIsName.nd rfl (by first | exact .inl rfl | exact .inr rfl))) (tg_nm 1) (fun _ _ _ _ _ => pdts_nil) (fun _ _ _ _ _ => (pd_cmp (do_in rfl (u65 hr)) (pd_var 1) (pd_glob (v := .str letterL) (d := .str letterL) (fun _ => rfl) rfl g1 ⟨_, rfl⟩))))) pda_nil))))))), ?_⟩
  rintro ds P R _ ⟨d, rfl, ok, sm, p⟩
  refine ⟨_, one_str ok, _, rfl, ?_⟩
  cases d with
  | str z =>
    refine iteF ⟨z.length, len_str sm, trivial, _, rfl, ?_⟩
    have p : P (.bl (nameB z)) := p
    have c1 : ((1 : Int) ≤ (z.length : Int)) ↔ 1 ≤ z.length := by omega
    have c6 : ((z.length : Int) ≤ 6) ↔ z.length ≤ 6 := by omega
    unfold nameB at p
    by_cases h1 : 1 ≤ z.length
    · rw [decide_eq_true h1, Bool.true_and] at p
      rw [decide_eq_true (c1.mpr h1)]
      refine iteT ⟨trivial, _, rfl, ?_⟩
      by_cases h6 : z.length ≤ 6
      · rw [decide_eq_true h6, Bool.true_and] at p
        rw [decide_eq_true (c6.mpr h6)]
        refine iteF ?_
        have ei : inB (.str z) (.tup (keptL.map .str)) = some (keptL.any fun y => y == z) := by
          have e : (flD (.str z) && (keptL.map D.str).all flD || shD (.str z) && shD (.tup (keptL.map .str))) = true := rfl
          simp only [inB, e, if_true, List.any_map]
          rfl
        refine ⟨_, ei, _, rfl, ?_⟩
        cases e : keptL.any fun y => y == z with
        | true =>
          rw [e] at p
          exact iteF p
        | false =>
          rw [e] at p
          refine iteT ⟨z, rfl, ⟨trivial, trivial⟩, ?_⟩
          refine cmpD_pure (fun d => match d with
            | .str w => some (.bl (decide (∃ c ∈ w.cps.toList, c ∈ letterL.cps.toList)))
            | _ => none) ?_ (fun d hd T hT => ?_) ?_
          · rw [List.length_map, Array.length_toList]
            show 0 + z.length ≤ _
            omega
          · obtain ⟨c, hc, rfl⟩ := List.mem_map.mp hd
            refine ⟨rfl, iteT ⟨_, rfl, rfl, ?_⟩⟩
            simpa using hT
          · refine ⟨_, _, rfl, ?_, p⟩
            have e2 : ∀ l : List Nat, (l.map fun c => D.str ⟨#[c]⟩).filterMap (fun d => match d with
                | .str w => some (D.bl (decide (∃ c ∈ w.cps.toList, c ∈ letterL.cps.toList)))
                | _ => none) = (l.map fun c => decide (c ∈ letterL.cps.toList)).map D.bl := by
              intro l
              induction l with
              | nil => rfl
              | cons c l ih =>
                rw [List.map_cons, List.map_cons, List.map_cons, List.filterMap_cons, ih]
                simp
            rw [List.nil_append, e2]
            exact bls_map _
      · rw [decide_eq_false h6, Bool.false_and] at p
        rw [decide_eq_false fun z' => h6 (c6.mp z')]
        exact iteT p
    · rw [decide_eq_false h1, Bool.false_and, Bool.false_and] at p
      rw [decide_eq_false fun z' => h1 (c1.mp z')]
      exact iteF ⟨_, rfl, iteT p⟩
  | _ => exact iteT (iteT p)
end
end Vf

set_option Elab.async false
set_option linter.all false
set_option maxRecDepth 100000
set_option maxHeartbeats 2000000
/-! the dealer of the laws k01 to k13: in their folders this text stands as Eb0 -/
namespace Vf
open PySem PySem.Spec PyProof.Rows L2
section
variable {P : Program} {w : World} {K : PySem.W.Frag} {mg : Str → Option Value} {base : Heap}

def spDeal (K : PySem.W.Frag) : Sp := fun vs H Q _ => ∃ (a : Addr) (ns : List Int) (b : Int), vs = [.ref a, .int b] ∧ SqL K H a (ns.map V.int) ∧ ns.length ≤ 63 ∧ 0 ≤ b ∧ b ≤ 63 ∧
  ∀ p c H', H p = none → H c = none → Same H H' → DealAt H' p c → Q (.ref p) H'

abbrev nDeal : List Str := ["_law_script", "_law_base", "_law_stirred", "_law_cell", "_law_cells"]
theorem scDeal : FnScope nDeal ["_law_script", "_law_base"] (defScope sDeal) := ⟨rfl, rfl, rfl, by decide +kernel, rfl, by decide +kernel, by decide +kernel⟩

theorem ok_deal {f : Addr} {fd : FuncData} (F : Fun K "_law_deal" "_law_deal" sDeal f fd) (B : Bt mg) : FnOk P w K mg base CX0 1 f fd ["_law_script", "_law_base"] (spDeal K) := by
  refine F.ok scDeal (fun vs H Q E h => ?_) (fun cdv A outer s H vs Q E hr h => ?_)
  · obtain ⟨a, ns, b, rfl, _⟩ := h
    rfl
  · obtain ⟨a, ns, b, rfl, hS, hl, hb0, hb1, k⟩ := h
    refine ⟨_, pss_cons (ps_set (i := 2) scDeal.nd rfl (.inl rfl) (pe_op op_add pe_int (pe_op op_mul pe_int (pv 1))))
      (pss_cons (ps_setLc (i := 4) (own := [("_law_cell", 3)]) (g := gName 3) (tt := tYes) rfl scDeal.nd rfl rfl (sw_true rfl rfl rfl (by decide +kernel))
          (pi_list (pe_slice sl_list (pv 0) (po_some (pv 1)) (po_some pe_int))) (blkOk_by (N := nDeal) (sc := defScope sDeal) (by decide +kernel))
          (fun _ _ _ _ _ => pg_name (i := 3) scDeal.nd rfl (.inl rfl)) (fun _ _ _ _ _ => pts_nil)
          (fun _ _ _ _ _ => pe_callB call_abs (by rfl) B.abs (by decide +kernel) (pa_cons (pe_callTy call_int1 (by rfl) B.int (by decide +kernel) (pa_cons (pv 3) pa_nil)) pa_nil)))
      (pss_cons (ps_for PassesOwn.never rfl (pi_list (pv 4)) (pg_name (i := 3) scDeal.nd rfl (.inl rfl))
          (pss_one (ps_set (i := 2) scDeal.nd rfl (.inl rfl) (pe_op op_mod (pe_callTy call_int1 (by rfl) B.int (by decide +kernel) (pa_cons (pe_op op_add (pe_op op_add (pe_op op_mul (pv 2) pe_int) (pe_op op_mod (pe_callTy call_int1 (by rfl) B.int (by decide +kernel) (pa_cons (pv 3) pa_nil)) pe_int)) pe_int) pa_nil)) pe_int))))
      (pss_one (ps_ret (pe_lst (pa_cons (pe_turn (pe_lc (own := [("_law_cell", 3)]) (g := gName 3) rfl scDeal.nd (pi_list (pv 4)) (blkOk_by (N := nDeal) (sc := defScope sDeal) (by decide +kernel))
          (fun _ _ _ _ _ => pg_name (i := 3) scDeal.nd rfl (.inl rfl)) (fun _ _ _ _ _ => pts_one (pt_cmpR op_ge (pv 3) (pe_op op_pow pe_int pe_int) (nomark _))) (fun _ _ _ _ _ => pv 3)) (po_some (pe_op op_sub pe_int pe_int))) (pa_cons (pv 2) pa_nil))))))), ?_⟩
    refine ⟨_, rfl, _, _, rfl, rfl, .inl ⟨by decide, by decide⟩, _, _, rfl, rfl, ?_⟩
    obtain ⟨cs, ec, hcl⟩ := cut_ints ns (some b) (some 60)
    refine ⟨_, rfl, _, rfl, _, rfl, _, rfl, a, ns.map V.int, rfl, hS, fun q hq => ?_⟩
    rw [ec]
    have s0 : Same H (upd H q (.lst (cs.map V.int))) := same_new hq
    refine ⟨q, rfl, ⟨_, SqL.of upd_same⟩, fun D hD => ?_⟩
    have nD : H D = none := s0.free hD
    refine lc_list (K := K) (a := q) (xs := cs.map V.int) (fun i H' => ∃ acc : List Int, H' D = some (.lst (acc.map V.int)) ∧ acc.length = i ∧ Same (upd H q (.lst (cs.map V.int))) H')
      ⟨[], upd_same, rfl, same_new hD⟩ (fun i H' _ ⟨_, _, _, s1⟩ => s1.seq (SqL.of upd_same)) ?_ ?_
    · rintro i x H1 hi ⟨acc, e1, e2, s1⟩
      obtain ⟨z, hz, rfl⟩ := int_at hi
      have hi' := lt_of_at hz
      refine ⟨rfl, yes_then ?_⟩
      refine ⟨_, rfl, .inl ⟨_, rfl, _, rfl, _, e1, small100 (by rw [List.length_map]; omega), ?_⟩⟩
      refine ⟨acc ++ [if z < 0 then -z else z], by rw [upd_same, ← map_snoc], by rw [List.length_append, e2]; rfl, fun b' o e => ?_⟩
      rw [upd_ne (ne_of_none e hD)]
      exact s1 b' o e
    · rintro H1 ⟨acc, e1, e2, s1⟩
      rw [List.length_map] at e2
      have s2 : Same H H1 := s0.trans s1
      -- the stirring
      refine ⟨_, rfl, D, rfl, ⟨_, SqL.of e1⟩, for_list (K := K) (a := D) (xs := acc.map V.int) (fun i σ H2 => ∃ (st : Int) (v : Option V), σ = [some (.ref a), some (.int b), some (.int st), v, some (.ref D)] ∧ 0 ≤ st ∧ st < 2147483647 ∧ Same H1 H2)
        ⟨_, none, rfl, by omega, by omega, Same.refl _⟩ (fun i σ H2 _ ⟨_, _, _, _, _, s3⟩ => s3.seq (SqL.of e1)) ?_ ?_⟩
      · rintro i y σ H2 hi ⟨st, v, rfl, hs0, hs1, s3⟩
        obtain ⟨z, hz, rfl⟩ := int_at hi
        refine ⟨_, rfl, _, _, rfl, rfl, .inl ⟨by omega, by omega⟩, _, rfl, .inl ⟨_, rfl, _, _, rfl, rfl, (by show (0 : Int) < 2147483497; decide), _, _, rfl, rfl, _, _, rfl, rfl, .inl ⟨_, rfl, _, _, rfl, rfl, (by show (0 : Int) < 2147483647; decide), ?_⟩⟩⟩
        exact ⟨_, _, rfl, Int.emod_nonneg _ (by decide), Int.emod_lt_of_pos _ (by decide), s3⟩
      · rintro σ H2 ⟨st, v, rfl, hs0, hs1, s3⟩
        refine ⟨_, rfl, D, rfl, ⟨_, SqL.of (s3 _ _ e1)⟩, fun L hL => ?_⟩
        have nL : H L = none := (s2.trans s3).free hL
        refine lc_list (K := K) (a := D) (xs := acc.map V.int) (fun i H' => ∃ bs : List Int, H' L = some (.lst (bs.map V.int)) ∧ bs.length ≤ i ∧ Same H2 H')
          ⟨[], upd_same, Nat.le_refl _, same_new hL⟩ (fun i H' _ ⟨_, _, _, s4⟩ => (s3.trans s4).seq (SqL.of e1)) ?_ ?_
        · rintro i x H3 hi ⟨bs, f1, f2, s4⟩
          obtain ⟨z, hz, rfl⟩ := int_at hi
          have hi' := lt_of_at hz
          refine ⟨rfl, ?_⟩
          refine ⟨_, rfl, _, _, rfl, rfl, ⟨by decide, by decide, by decide⟩, _, _, rfl, rfl, _, rfl, ?_⟩
          refine ite2 (fun _ => ?_) (fun _ => ?_)
          · refine ⟨_, rfl, _, f1, small100 (by rw [List.length_map]; omega), ?_⟩
            refine ⟨bs ++ [z], by rw [upd_same, ← map_snoc], by rw [List.length_append]; show _ + 1 ≤ _; omega, fun b' o e => ?_⟩
            rw [upd_ne (ne_of_none e hL)]
            exact s4 b' o e
          · exact ⟨bs, f1, by omega, s4⟩
        · rintro H3 ⟨bs, f1, f2, s4⟩
          rw [List.length_map] at f2
          refine ⟨L, _, rfl, _, _, rfl, rfl, _, rfl, rfl, SqL.of f1, fun c hc => ?_⟩
          have s5 : Same H H3 := (s2.trans s3).trans s4
          refine ⟨_, rfl, (by show 2 ≤ sizeLine; decide), fun p hp => ?_⟩
          have ncp : c ≠ p := fun z => by
            rw [← z, upd_same] at hp
            cases hp
          have hpc : H3 p = none := (same_new hc).free hp
          refine k p c _ (s5.free hpc) (s5.free hc) ((s5.trans (same_new hc)).trans (same_new hp)) ⟨bs.reverse, st, upd_same, ?_, hs0, hs1, ?_⟩
          · rw [upd_ne ncp, upd_same, List.map_reverse]
          · rw [List.length_reverse]
            omega

/-! ### a draw -/
def spDraw : Sp := fun vs H Q _ => ∃ (p c : Addr) (n : Int), vs = [.ref p, .int n] ∧ DealAt H p c ∧ 1 ≤ n ∧ n < 1000000 ∧
  ∀ (r : Int) H', 0 ≤ r → r < n → DealAt H' p c → Same (hide p c H) (hide p c H') → Q (.int r) H'
abbrev nDraw : List Str := ["_law_deal_here", "_law_many", "_law_left"]
theorem scDraw : FnScope nDraw ["_law_deal_here", "_law_many"] (defScope sDraw) := ⟨rfl, rfl, rfl, by decide +kernel, rfl, by decide +kernel, by decide +kernel⟩
theorem ok_draw {f : Addr} {fd : FuncData} (F : Fun K "_law_draw" "_law_draw" sDraw f fd) (B : Bt mg) : FnOk P w K mg base CX0 1 f fd ["_law_deal_here", "_law_many"] spDraw := by
  refine F.ok scDraw (fun vs H Q E h => ?_) (fun cdv A outer s H vs Q E hr h => ?_)
  · obtain ⟨p, c, n, rfl, _⟩ := h
    rfl
  · obtain ⟨p, c, n, rfl, ⟨bs, st, hp, hc, hs0, hs1, hl⟩, h1, h2, k⟩ := h
    have hu := hr.units
    have hpc : p ≠ c := ne_of hp hc (by cases bs <;> (intro z; cases z))
    refine ⟨_, pss_cons (ps_while PassesOwn.never (PW.pt (pw_and (pt_cmpR (op_neD hu) (pe_ix ix_list (pv 0) pe_int (fun _ _ => rfl)) (pe_lst pa_nil) (nomark _))
          (pw_and1 (pt_cmpR op_eq (pe_ix ix_list (pe_ix ix_list (pv 0) pe_int (fun _ _ => rfl)) (pe_un un_neg pe_int) (fun _ _ => rfl)) pe_int (nomark _)))))
          (pss_one (ps_expr (pe_bm0 PySem.F.plainAttrs_list PySem.F.slot_list_pop PySem.F.type_list_pop mt_pop (pe_ix ix_list (pv 0) pe_int (fun _ _ => rfl))))))
      (pss_cons (ps_if (pt_cmpR (op_neD hu) (pe_ix ix_list (pv 0) pe_int (fun _ _ => rfl)) (pe_lst pa_nil) (nomark _))
          (pss_cons (ps_set (i := 2) scDraw.nd rfl (.inl rfl) (pe_bm0 PySem.F.plainAttrs_list PySem.F.slot_list_pop PySem.F.type_list_pop mt_pop (pe_ix ix_list (pv 0) pe_int (fun _ _ => rfl))))
          (pss_cons (ps_expr (pe_bm PySem.F.plainAttrs_list PySem.F.slot_list_append PySem.F.type_list_append mt_append (pe_ix ix_list (pv 0) pe_int (fun _ _ => rfl)) (pa_cons (pe_op op_fdivN (pv 2) (pv 1)) pa_nil)))
          (pss_one (ps_ret (pe_op op_mod (pe_callTy call_int1 (by rfl) B.int (by decide +kernel) (pa_cons (pv 2) pa_nil)) (pv 1)))))) pss_nil)
      (pss_cons (ps_asg (pe_op op_mod (pe_callTy call_int1 (by rfl) B.int (by decide +kernel) (pa_cons (pe_op op_add (pe_op op_mul (pe_ix ix_list (pv 0) pe_int (fun _ _ => rfl)) pe_int) pe_int) pa_nil)) pe_int) (pg_sub (pv 0) pe_int set_list))
      (pss_one (ps_ret (pe_op op_mod (pe_callTy call_int1 (by rfl) B.int (by decide +kernel) (pa_cons (pe_op op_fdiv (pe_ix ix_list (pv 0) pe_int (fun _ _ => rfl)) pe_int) pa_nil)) (pv 1)))))), ?_⟩
    -- the list of great numbers, while it ends in 0
    refine ⟨fun m σ H' => σ = [some (.ref p), some (.int n), none] ∧ ∃ bs : List Int, bs.length = m ∧ H' p = some (.lst [.ref c, .int st]) ∧ H' c = some (.lst (bs.map V.int)) ∧ bs.length ≤ 63 ∧ Same (hide p c H) (hide p c H'),
      ⟨_, rfl, bs, rfl, hp, hc, hl, Same.refl _⟩, ?_⟩
    rintro m σ H1 ⟨rfl, bs, hm, hp1, hc1, hl1, s1⟩
    refine ⟨_, rfl, p, _, _, _, rfl, rfl, SqL.of hp1, atI_nat (j := 0) rfl, (by show 0 ≤ sizeLine; decide), fun q hq => ?_⟩
    have npq : p ≠ q := ne_of_none hp1 hq
    have ncq : c ≠ q := ne_of_none hc1 hq
    have sq : Same H1 (upd H1 q (.lst [])) := same_new hq
    refine ⟨_, _, .lst ((sq.seq (SqL.of hc1))) (dpAll_ints bs), .lst (SqL.of upd_same) .nil, shaped_ints bs, shaped_nil, _, rfl, ?_⟩
    rw [eqv_nil]
    have hp2 : ∀ u, (upd H1 q u) p = some (.lst [.ref c, .int st]) := fun u => by rw [upd_ne npq]; exact hp1
    have hc2 : ∀ u, (upd H1 q u) c = some (.lst (bs.map V.int)) := fun u => by rw [upd_ne ncq]; exact hc1
    by_cases he : bs = []
    · -- no great number is left: the stirred number tells
      subst he
      refine iteF (iteF ?_)
      refine ⟨_, rfl, p, _, _, _, rfl, rfl, SqL.of (hp2 _), atI_nat (j := 0) rfl, (by show 0 ≤ sizeLine; decide), fun q2 hq2 => ?_⟩
      have npq2 : p ≠ q2 := ne_of_none (hp2 _) hq2
      have ncq2 : c ≠ q2 := ne_of_none (hc2 _) hq2
      have sq2 := same_new (o := .lst []) hq2
      refine ⟨_, _, .lst (sq2.seq (SqL.of (hc2 _))) .nil, .lst (SqL.of upd_same) .nil, shaped_nil, shaped_nil, _, rfl, ?_⟩
      rw [eqv_nil]
      refine iteF ?_
      have hp3 := sq2 _ _ (hp2 (.lst []))
      have hc3 := sq2 _ _ (hc2 (.lst []))
      refine ⟨_, rfl, p, _, _, _, rfl, rfl, SqL.of hp3, atI_nat (j := 1) rfl, _, _, rfl, rfl, .inl ⟨by omega, by omega⟩, _, _, rfl, rfl, .inl ⟨_, rfl, _, _, rfl, rfl, (by show (0 : Int) < 2147483647; decide), ?_⟩⟩
      refine ⟨_, rfl, p, _, _, 1, rfl, rfl, hp3, rfl, ?_⟩
      refine ⟨_, rfl, p, _, _, _, rfl, rfl, SqL.of upd_same, atI_nat (j := 1) rfl, _, _, rfl, rfl, ⟨by decide, by decide⟩, .inl ⟨_, rfl, _, rfl, _, _, rfl, rfl, (by show (0 : Int) < n; omega), ?_⟩⟩
      refine k _ _ (Int.emod_nonneg _ (by omega)) (Int.emod_lt_of_pos _ (by omega)) ⟨[], _, upd_same, ?_, Int.emod_nonneg _ (by decide), Int.emod_lt_of_pos _ (by decide), Nat.zero_le _⟩ ?_
      · rw [upd_ne (Ne.symm hpc)]
        exact hc3
      · rw [hide_updp]
        exact (s1.trans (hide_mono sq)).trans (hide_mono sq2)
    · have hne : bs.map PyData.int ≠ [] := fun z => he (List.map_eq_nil_iff.mp z)
      have hee : (bs.map PyData.int).isEmpty = false := by
        cases bs with
        | nil => exact absurd rfl he
        | cons _ _ => rfl
      rw [hee]
      refine iteT ?_
      have hnv : bs.map V.int ≠ [] := fun z => he (List.map_eq_nil_iff.mp z)
      obtain ⟨x, hx, hd, ha⟩ := last_at hnv
      obtain ⟨z, hz, rfl⟩ := int_at hx
      refine ⟨_, rfl, p, _, _, _, rfl, rfl, SqL.of (hp2 _), atI_nat (j := 0) rfl, _, rfl, c, _, _, _, rfl, rfl, SqL.of (hc2 _), ha, rfl, _, rfl, ?_⟩
      have hcq : ∀ H2 : Hp, hide p c (upd H2 c (.lst (bs.map V.int).dropLast)) = hide p c H2 := fun H2 => hide_updc
      have hdl : (bs.map V.int).dropLast = bs.dropLast.map V.int := List.map_dropLast.symm
      have hlen : bs.dropLast.length + 1 = bs.length := by
        rw [List.length_dropLast]
        have := List.length_pos_iff.mpr he
        omega
      refine ite2 (fun h0 => ?_) (fun h0 => ?_)
      · -- it ends in 0
        refine ⟨_, fun _ _ y => y, ?_⟩
        refine ⟨_, rfl, p, _, _, _, rfl, rfl, SqL.of (hp2 _), atI_nat (j := 0) rfl, .inl ⟨rfl, _, SqL.of (hc2 _)⟩, c, _, _, rfl, rfl, hc2 _, hx, ?_⟩
        refine ⟨bs.length - 1, by omega, rfl, bs.dropLast, by omega, ?_, ?_, by omega, ?_⟩
        · rw [upd_ne hpc]
          exact hp2 _
        · rw [upd_same, hdl]
        · rw [hide_updc]
          exact s1.trans (hide_mono sq)
      · refine ⟨_, rfl, p, _, _, _, rfl, rfl, SqL.of (hp2 _), atI_nat (j := 0) rfl, (by show 0 ≤ sizeLine; decide), fun q2 hq2 => ?_⟩
        have npq2 : p ≠ q2 := ne_of_none (hp2 _) hq2
        have ncq2 : c ≠ q2 := ne_of_none (hc2 _) hq2
        have sq2 := same_new (o := .lst []) hq2
        refine ⟨_, _, .lst (sq2.seq (SqL.of (hc2 _))) (dpAll_ints bs), .lst (SqL.of upd_same) .nil, shaped_ints bs, shaped_nil, _, rfl, ?_⟩
        rw [eqv_nil, hee]
        refine iteT ?_
        have hp3 := sq2 _ _ (hp2 (.lst []))
        have hc3 := sq2 _ _ (hc2 (.lst []))
        refine ⟨_, rfl, p, _, _, _, rfl, rfl, SqL.of hp3, atI_nat (j := 0) rfl, .inl ⟨rfl, _, SqL.of hc3⟩, c, _, _, rfl, rfl, hc3, hx, ?_⟩
        rw [hdl]
        have hp4 : ∀ u, (upd (upd (upd H1 q (.lst [])) q2 (.lst [])) c u) p = some (.lst [.ref c, .int st]) := fun u => by rw [upd_ne hpc]; exact hp3
        refine ⟨_, rfl, p, _, _, _, rfl, rfl, SqL.of (hp4 _), atI_nat (j := 0) rfl, .inl ⟨rfl, _, SqL.of upd_same⟩, _, rfl, _, rfl, _, _, rfl, rfl, ⟨by omega, by omega⟩, c, _, _, rfl, rfl, upd_same, small100 (by rw [List.length_map]; omega), ?_⟩
        rw [upd_upd, map_snoc]
        refine ⟨_, rfl, .inl ⟨_, rfl, _, rfl, _, _, rfl, rfl, (by show (0 : Int) < n; omega), ?_⟩⟩
        refine k _ _ (Int.emod_nonneg _ (by omega)) (Int.emod_lt_of_pos _ (by omega)) ⟨bs.dropLast ++ [z.fdiv n], st, hp4 _, upd_same, hs0, hs1, ?_⟩ ?_
        · rw [List.length_append]
          show _ + 1 ≤ 63
          omega
        · rw [hide_updc]
          exact (s1.trans (hide_mono sq)).trans (hide_mono sq2)
end
end Vf

set_option Elab.async false
set_option linter.all false
set_option maxRecDepth 100000
set_option maxHeartbeats 1000000
/-! the law's dealer, by data: deal, draw, pick, mixed -/
namespace Vf
open PySem PySem.Spec PyProof.Rows L2
theorem FnOk.weak {P : Program} {w : World} {K : PySem.W.Frag} {mg : Str → Option Value} {base : Heap} {k : Nat} {f : Addr} {fd : FuncData} {ps : List Str} {sp sp' : Sp} (F : FnOk P w K mg base CX0 k f fd ps sp) (h : ∀ vs H Q E, sp' vs H Q E → sp vs H Q E) : FnOk P w K mg base CX0 k f fd ps sp' :=
  ⟨fun vs H Q E q => F.len vs H Q _ (h _ _ _ _ q), fun A outer s H args us vs Q E hr he hb hv hs => F.run A outer s H args us vs Q E hr he hb hv (h _ _ _ _ hs)⟩
/-! ### a new dealer -/
section
variable {X : Cx} {K : PySem.W.Frag} {W : WX}
structure CalNew (P : Program) (w : World) (K : PySem.W.Frag) (mg : Str → Option Value) (base : Heap) (x : Str) (k : Nat) : Prop where
  ex : ∃ f fd ps, FnOk P w K mg base CX0 k f fd ps (spDeal K) ∧ mg x = some (.ref f) ∧ PySem.W.keepIn K (.ref f) = true ∧ Binds K fd ps []
def dealS (i : Nat) (Fs : DA) : DS := fun ρ e => Fs ρ (fun ds ρ1 => ∃ (ns : List Int) (b : Int), ds = [.scr ns, .int b] ∧ ns.length ≤ 63 ∧ 0 ≤ b ∧ b ≤ 63 ∧ ∀ p c, e.nx (ρ1.set i (.deal p c))) e.rz
theorem pds_deal {i k : Nat} {x y : Str} {a : Expr} {es : List Expr} {Fs : DA} {p cpos pos pos' : Pos} (hN : X.N.Nodup) (C : CalNew X.prog X.w X.K X.mg X.base x k) (hr : Room k X.A) (ha : PDA K W X (a :: es) Fs) (hK : X.K = K := by rfl) (hg : Gl X x := by rfl) (hdb : (x == ("__debug__" : Str)) = false := by decide)
    (he : starEach (a :: es) X.env = (false, eval a X.env) :: starEach es X.env := by rfl) (hpl : (backTo cpos (starEach es X.env)).any (·.1) = false := by rfl)
    (hi : X.N[i]? = some y := by rfl) (hx : Loc X.env.scope y := by first | exact .inl rfl | exact .inr rfl)
    (hs : swapsWith (.Call (.Name x p) (a :: es) [] cpos) (some (.Name y pos')) pos.line X.env = pure false := by rfl) (hf : X.fn y = true ∨ X.env.scope.names.lookup y = some .local := by first | exact .inl rfl | exact .inr rfl) :
    PDS K W X (.Assign [.Name y pos'] (.Call (.Name x p) (a :: es) [] cpos) pos) (dealS i Fs) := by
  subst hK
  obtain ⟨f, fd, ps, F, hm, hk, hb⟩ := C.ex
  refine PS.imp (ps_set hN hi hx (pe_call F hr hg hm hk hb .nil pass0 ha hdb he hpl) hs hf) fun D σ H ⟨c, G, ρ, e, r, f, o⟩ => ?_
  refine ⟨c, G, ρ, _, _, r, f, fun ds ρ1 vs H1 G1 f1 r1 s1 q1 => ?_, o.rz σ⟩
  obtain ⟨ns, b, rfl, hl, h0, h1, nx⟩ := f1
  obtain ⟨v, u, rfl, ⟨a', rfl, qa⟩, qb⟩ := rpAll2 q1
  cases (show u = .int b from qb)
  exact ⟨a', ns, b, rfl, r1.gh.seq qa, hl, h0, h1, fun p c H' np nc s D' => o.nx _ _ _ _ (nx p c) (r1.putDeal s np nc D') s1⟩
/-! ### x, y = two new lists -/
def parOOS (i j : Nat) (F1 F2 : DA) : DS := fun ρ e => F1 ρ (fun l ρ1 => F2 ρ1 (fun m ρ2 => e.nx ((ρ2.set i (.own l)).set j (.own m))) e.rz) e.rz
theorem Rep.slen {c : Ct} {σ : L2.St} {H G : Hp} {ρ : Ev} (r : Rep K c σ H G ρ) : ρ.length = σ.length := r.len
theorem pds_parOO {i j : Nat} {x y : Str} {a b : Expr} {F1 F2 : DA} {px py pt pos : Pos} {kt k2 pt2} (hN : X.N.Nodup) (h1 : PF K W X a F1) (h2 : PF K W X b F2) (hc : X.calm = true := by rfl) (hi : X.N[i]? = some x := by rfl) (hj : X.N[j]? = some y := by rfl) (hij : i ≠ j := by decide)
    (hx : X.env.scope.names.lookup x = some .local := by rfl) (hy : X.env.scope.names.lookup y = some .local := by rfl) (hw : swappedStores [.Tuple [.Name x px, .Name y py] kt pt] (.Tuple [a, b] k2 pt2) X.env = pure (some [x, y]) := by rfl)
    (hs : swapsWithSole [.Tuple [.Name x px, .Name y py] kt pt] (.Tuple [a, b] k2 pt2) pos.line X.env = pure false := by rfl)
    (he : starEach [a, b] X.env = (false, eval a X.env) :: starEach [b] X.env := by rfl) (he2 : starEach [b] X.env = (false, eval b X.env) :: starEach [] X.env := by rfl) :
    PDS K W X (.Assign [.Tuple [.Name x px, .Name y py] kt pt] (.Tuple [a, b] k2 pt2) pos) (parOOS i j F1 F2) := by
  refine PS.imp (ps_par hc hN hi hj hij hx hy (pa_cons h1 (pa_cons h2 pa_nil he2) he) hw hs) fun D σ H ⟨c, G, ρ, e, r, f, o⟩ => ?_
  refine ⟨c, G, ρ, _, _, r, f, fun l ρ1 p H1 G1 f1 r1 hl1 s1 => ?_, o.rz σ⟩
  obtain ⟨c', xs, r2, hp, ra, gp, back⟩ := r1.aside hl1
  refine ⟨c', G1, ρ1, _, e.rz, r2, f1, fun m ρ2 q H2 G2 f2 r3 hl2 s2 => ?_, ?_⟩
  · have r4 := back _ _ _ _ (by rw [List.length_set]) (r3.take (i := j) hl2) s2
    have r5 := r4.take (i := i) (by rw [List.length_set, List.length_set]; exact hl2)
    refine ⟨.ref p, .ref q, rfl, ?_⟩
    have r6 : Rep K c ((σ.set i (some (.ref p))).set j (some (.ref q))) H2 G2 ((ρ2.set i (.own l)).set j (.own m)) := by
      rw [List.set_comm _ _ hij, List.set_comm _ _ hij]
      exact r5
    exact o.nx _ _ _ _ f2 r6 (s1.trans s2)
  · intro x ρ' e' v H' G' a b t r' n
    obtain ⟨G2, s2, r3, _⟩ := (back _ _ _ _ rfl b t).keepIt b.len
    exact o.rz σ _ _ _ _ _ _ a r3 (s1.trans (t.trans s2)) (r'.mono s2) n
end
end Vf

set_option Elab.async false
set_option linter.all false
set_option maxRecDepth 100000
set_option maxHeartbeats 1000000
/-! data at most n deep: what may be compared -/
namespace Vf
open PySem PySem.Spec PyProof.Rows L2
mutual
def shN (n : Nat) : D → Bool
  | .non => true
  | .bl _ => true
  | .int _ => true
  | .str s => PyData.strOk s && decide (s.length ≤ 1000000)
  | .lst l => (decide (1 ≤ n) && decide (l.length ≤ 1000000)) && shNAll (n - 1) l
  | .tup l => (decide (1 ≤ n) && decide (l.length ≤ 1000000)) && shNAll (n - 1) l
  | _ => false
def shNAll (n : Nat) : List D → Bool
  | [] => true
  | d :: ds => shN n d && shNAll n ds
end
theorem shNAll_iff {n : Nat} : ∀ {l : List D}, shNAll n l = true ↔ ∀ d ∈ l, shN n d = true
  | [] => ⟨fun _ _ h => (nomatch h), fun _ => rfl⟩
  | d :: ds => by
    show (shN n d && shNAll n ds) = true ↔ _
    rw [Bool.and_eq_true, shNAll_iff (l := ds), List.forall_mem_cons]
theorem shN_lst {n : Nat} {l : List D} (h : ∀ d ∈ l, shN n d = true) (hl : l.length ≤ 1000000 := by decide) : shN (n + 1) (.lst l) = true := by
  show ((decide (1 ≤ n + 1) && decide (l.length ≤ 1000000)) && shNAll n l) = true
  rw [shNAll_iff.mpr h, decide_eq_true (Nat.le_add_left 1 n), decide_eq_true hl]
  rfl
theorem shN_lst_inv {n : Nat} {l : List D} (h : shN n (.lst l) = true) : 1 ≤ n ∧ l.length ≤ 1000000 ∧ ∀ d ∈ l, shN (n - 1) d = true := by
  have h : ((decide (1 ≤ n) && decide (l.length ≤ 1000000)) && shNAll (n - 1) l) = true := h
  rw [Bool.and_eq_true, Bool.and_eq_true, decide_eq_true_eq, decide_eq_true_eq] at h
  exact ⟨h.1.1, h.1.2, shNAll_iff.mp h.2⟩
theorem shN_tup {n : Nat} {l : List D} (h : ∀ d ∈ l, shN n d = true) (hl : l.length ≤ 1000000 := by decide) : shN (n + 1) (.tup l) = true := by
  show ((decide (1 ≤ n + 1) && decide (l.length ≤ 1000000)) && shNAll n l) = true
  rw [shNAll_iff.mpr h, decide_eq_true (Nat.le_add_left 1 n), decide_eq_true hl]
  rfl
theorem shN_tup_inv {n : Nat} {l : List D} (h : shN n (.tup l) = true) : 1 ≤ n ∧ l.length ≤ 1000000 ∧ ∀ d ∈ l, shN (n - 1) d = true := by
  have h : ((decide (1 ≤ n) && decide (l.length ≤ 1000000)) && shNAll (n - 1) l) = true := h
  rw [Bool.and_eq_true, Bool.and_eq_true, decide_eq_true_eq, decide_eq_true_eq] at h
  exact ⟨h.1.1, h.1.2, shNAll_iff.mp h.2⟩
mutual
theorem shN_py {n : Nat} : ∀ {d : D}, shN n d = true → ∃ p, toPy d = some p ∧ p.canLay0 = true ∧ p.depth ≤ n
  | .non, _ => ⟨_, rfl, by simp [PyData.canLay0], by simp [PyData.depth]⟩
  | .bl _, _ => ⟨_, rfl, by simp [PyData.canLay0], by simp [PyData.depth]⟩
  | .int _, _ => ⟨_, rfl, by simp [PyData.canLay0], by simp [PyData.depth]⟩
  | .str s, h => ⟨_, rfl, by
    have h : (PyData.strOk s && decide (s.length ≤ 1000000)) = true := h
    rw [Bool.and_eq_true] at h
    simpa [PyData.canLay0] using h.1, by simp [PyData.depth]⟩
  | .lst l, h => by
    have h : ((decide (1 ≤ n) && decide (l.length ≤ 1000000)) && shNAll (n - 1) l) = true := h
    rw [Bool.and_eq_true, Bool.and_eq_true, decide_eq_true_eq, decide_eq_true_eq] at h
    obtain ⟨ps, e, c, k⟩ := shNAll_py h.2
    have h1 := h.1.1
    refine ⟨.list ps, by unfold toPy; rw [e]; rfl, by simpa [PyData.canLay0] using c, ?_⟩
    simp only [PyData.depth]
    omega
  | .tup l, h => by
    have h : ((decide (1 ≤ n) && decide (l.length ≤ 1000000)) && shNAll (n - 1) l) = true := h
    rw [Bool.and_eq_true, Bool.and_eq_true, decide_eq_true_eq, decide_eq_true_eq] at h
    obtain ⟨ps, e, c, k⟩ := shNAll_py h.2
    have h1 := h.1.1
    refine ⟨.tuple ps, by unfold toPy; rw [e]; rfl, by simpa [PyData.canLay0] using c, ?_⟩
    simp only [PyData.depth]
    omega
theorem shNAll_py {n : Nat} : ∀ {l : List D}, shNAll n l = true → ∃ ps, toPyAll l = some ps ∧ PyData.canLayAll0 ps = true ∧ PyData.depthAll ps ≤ n
  | [], _ => ⟨[], rfl, by simp [PyData.canLayAll0], by simp [PyData.depthAll]⟩
  | d :: ds, h => by
    have h : (shN n d && shNAll n ds) = true := h
    rw [Bool.and_eq_true] at h
    obtain ⟨p, e1, c1, k1⟩ := shN_py h.1
    obtain ⟨ps, e2, c2, k2⟩ := shNAll_py h.2
    refine ⟨p :: ps, by unfold toPyAll; rw [e1, e2], by simp [PyData.canLayAll0, c1, c2], ?_⟩
    simp only [PyData.depthAll]
    omega
end
theorem shN_sh {n : Nat} {d : D} (h : shN n d = true) (hn : n ≤ 63) : shD d = true := by
  obtain ⟨p, e, c, k⟩ := shN_py h
  unfold shD
  rw [e]
  simp [SeqAt.shaped, c]
  omega
theorem okEq_sh {n m : Nat} {d e : D} (h : shN n d = true) (h' : shN m e = true) (hn : n ≤ 63 := by decide) (hm : m ≤ 63 := by decide) : okEq d e := .inr ⟨shN_sh h hn, shN_sh h' hm⟩
theorem dEq_nil {l : List D} : dEq (.lst l) (.lst []) = l.isEmpty := by
  cases l <;> rfl
theorem inB_sh {n : Nat} {d : D} {l : List D} (h : shN n d = true) (hl : ∀ x ∈ l, shN n x = true) (hz : l.length ≤ 1000000) (hn : n ≤ 62 := by decide) : inB d (.lst l) = some (l.any fun y => dEq y d) ∧ inB d (.tup l) = some (l.any fun y => dEq y d) := by
  have e1 : shD d = true := shN_sh h (by omega)
  have e2 : shD (.lst l) = true := shN_sh (shN_lst hl hz) (by omega)
  have e3 : shD (.tup l) = true := shN_sh (shN_tup hl hz) (by omega)
  constructor
  · simp only [inB, e1, e2, Bool.and_self, Bool.or_true, if_true]
  · simp only [inB, e1, e3, Bool.and_self, Bool.or_true, if_true]
/-- the type of such data is known -/
theorem shN_ty {n : Nat} {d : D} {cs : List Addr} (h : shN n d = true) : okTy cs d = true := by
  cases d <;> first | rfl | cases h
theorem shN_str {n : Nat} {s : Str} (h : shN n (.str s) = true) : PyData.strOk s = true ∧ s.length ≤ 1000000 := by
  have h : (PyData.strOk s && decide (s.length ≤ 1000000)) = true := h
  rw [Bool.and_eq_true, decide_eq_true_eq] at h
  exact h
theorem big_le {n : Nat} (h : n ≤ 1000000) : n ≤ sizeLine := Nat.le_trans h (by decide)
theorem shN_sm {n : Nat} {d : D} (h : shN n d = true) : strSm d := by
  cases d with
  | str s => exact big_le (shN_str h).2
  | _ => exact trivial
mutual
theorem shN_mono {n m : Nat} (hn : n ≤ m) : ∀ {d : D}, shN n d = true → shN m d = true
  | .non, _ => rfl
  | .bl _, _ => rfl
  | .int _, _ => rfl
  | .str _, h => h
  | .lst l, h => by
    have h : ((decide (1 ≤ n) && decide (l.length ≤ 1000000)) && shNAll (n - 1) l) = true := h
    show ((decide (1 ≤ m) && decide (l.length ≤ 1000000)) && shNAll (m - 1) l) = true
    rw [Bool.and_eq_true, Bool.and_eq_true, decide_eq_true_eq] at h ⊢
    exact ⟨⟨by omega, h.1.2⟩, shNAll_mono (by omega) h.2⟩
  | .tup l, h => by
    have h : ((decide (1 ≤ n) && decide (l.length ≤ 1000000)) && shNAll (n - 1) l) = true := h
    show ((decide (1 ≤ m) && decide (l.length ≤ 1000000)) && shNAll (m - 1) l) = true
    rw [Bool.and_eq_true, Bool.and_eq_true, decide_eq_true_eq] at h ⊢
    exact ⟨⟨by omega, h.1.2⟩, shNAll_mono (by omega) h.2⟩
theorem shNAll_mono {n m : Nat} (hn : n ≤ m) : ∀ {l : List D}, shNAll n l = true → shNAll m l = true
  | [], _ => rfl
  | d :: ds, h => by
    have h : (shN n d && shNAll n ds) = true := h
    show (shN m d && shNAll m ds) = true
    rw [Bool.and_eq_true] at h ⊢
    exact ⟨shN_mono hn h.1, shNAll_mono hn h.2⟩
end
/-! ### loops by what stays true -/
theorem whS_inv {C : DT} {Fb : DS} {e : De} {ρ : Ev} (I : Nat → Ev → Prop) (n : Nat) (h0 : I n ρ) (hz : ∀ ρ, ¬ I 0 ρ)
    (h : ∀ n ρ (T : Ev → Prop), (∀ ρ', I n ρ' → T ρ') → I (n + 1) ρ → C ρ (fun b ρ1 => if b = true then Fb ρ1 { e with nx := T, ct := T, bk := e.nx } else e.nx ρ1) e.rz) : whS C Fb ρ e := by
  refine ⟨n, ?_⟩
  induction n generalizing ρ with
  | zero => exact (hz _ h0).elim
  | succ n ih => exact h n ρ (whD C Fb n e) (fun ρ' i => ih i) h0
theorem loopD_inv {Fg : DG} {Fb : DS} {e : De} (I : List D → Ev → Prop) (hn : ∀ ρ, I [] ρ → e.nx ρ)
    (h : ∀ d ds ρ (T : Ev → Prop), (∀ ρ', I ds ρ' → T ρ') → I (d :: ds) ρ → Fg d ρ fun ρ1 => Fb ρ1 { e with nx := T, ct := T, bk := e.nx }) : ∀ {l : List D} {ρ : Ev}, I l ρ → loopD Fg Fb l e ρ
  | [], _, h0 => hn _ h0
  | d :: ds, _, h0 => h d ds _ _ (fun _ i => loopD_inv I hn h i) h0
theorem perm_map_inv {α β : Type} {f : α → β} : ∀ {l : List β} {ks : List α}, l.Perm (ks.map f) → ∃ ys : List α, ys.Perm ks ∧ l = ys.map f := by
  intro l
  induction l with
  | nil =>
    intro ks h
    have e := List.map_eq_nil_iff.mp (List.Perm.eq_nil h.symm)
    subst e
    exact ⟨[], .nil, rfl⟩
  | cons y l ih =>
    intro ks h
    obtain ⟨x, hx, rfl⟩ := List.mem_map.mp (h.mem_iff.mp List.mem_cons_self)
    obtain ⟨s, t, rfl⟩ := List.append_of_mem hx
    have q : (f x :: l).Perm (f x :: (s ++ t).map f) := by
      refine h.trans ?_
      rw [List.map_append, List.map_cons, List.map_append]
      exact List.perm_middle
    obtain ⟨zs, h1, h2⟩ := ih q.cons_inv
    exact ⟨x :: zs, (List.Perm.cons x h1).trans List.perm_middle.symm, by rw [List.map_cons, h2]⟩
def negG : D → (D → Prop) → Prop := fun d P => ∃ i : Int, d = .int i ∧ P (.int (-i))
theorem do_neg {X : Cx} {K : PySem.W.Frag} : UnR X (unaryOp .USub) (RD1 K negG) := by
  intro pins s σ H x v Q I r hh
  obtain ⟨G, d, P, sg, rd, ⟨i, rfl, p⟩, k⟩ := hh
  cases (show x = _ from rd)
  exact un_neg pins s σ H _ v Q I r ⟨i, rfl, k _ _ _ _ p (Ext.refl sg) rfl⟩
/-! ### loops over ranges, over mapped lists -/
theorem loopD_at {α : Type} {g : α → D} {Fg : DG} {Fb : DS} {e : De} (I : Nat → Ev → Prop) {xs : List α} (hn : ∀ ρ, I xs.length ρ → e.nx ρ)
    (h : ∀ i a ρ (T : Ev → Prop), xs[i]? = some a → (∀ ρ', I (i + 1) ρ' → T ρ') → I i ρ → Fg (g a) ρ fun ρ1 => Fb ρ1 { e with nx := T, ct := T, bk := e.nx }) {ρ : Ev} (h0 : I 0 ρ) : loopD Fg Fb (xs.map g) e ρ := by
  have key : ∀ (m k : Nat) (ρ : Ev), k + m = xs.length → I k ρ → loopD Fg Fb ((xs.drop k).map g) e ρ := by
    intro m
    induction m with
    | zero =>
      intro k ρ hk i
      rw [List.drop_eq_nil_of_le (by omega)]
      exact hn ρ (by rw [← hk]; exact i)
    | succ m ih =>
      intro k ρ hk i
      have hl : k < xs.length := by omega
      rw [List.drop_eq_getElem_cons hl, List.map_cons]
      exact h k _ ρ _ (List.getElem?_eq_getElem hl) (fun ρ' i' => ih (k + 1) ρ' (by omega) i') i
  exact key xs.length 0 ρ (by omega) h0
theorem loopD_rng {Fg : DG} {Fb : DS} {e : De} {n : Nat} (I : Nat → Ev → Prop) (hn : ∀ ρ, I n ρ → e.nx ρ)
    (h : ∀ i ρ (T : Ev → Prop), i < n → (∀ ρ', I (i + 1) ρ' → T ρ') → I i ρ → Fg (.int (i : Nat)) ρ fun ρ1 => Fb ρ1 { e with nx := T, ct := T, bk := e.nx }) {ρ : Ev} (h0 : I 0 ρ) : loopD Fg Fb ((List.range n).map fun (i : Nat) => D.int i) e ρ := by
  refine loopD_at I (xs := List.range n) (by rw [List.length_range]; exact hn) (fun i a ρ T ha hT hi => ?_) h0
  have hl := lt_of_at ha
  rw [List.length_range] at hl
  rw [List.getElem?_range hl] at ha
  cases ha
  exact h i ρ T hl hT hi
theorem seq_inv {A B : DS} {ρ : Ev} {e : De} (I : Ev → Prop) (hB : ∀ ρ', I ρ' → B ρ' e) (hA : ∀ T : Ev → Prop, (∀ ρ', I ρ' → T ρ') → A ρ { e with nx := T }) : seqS A B ρ e := hA _ hB
end Vf

set_option Elab.async false
set_option linter.all false
set_option maxRecDepth 100000
set_option maxHeartbeats 1000000
/-! the law's dealer, by data: draw, pick, mixed -/
namespace Vf
open PySem PySem.Spec PyProof.Rows L2
section
variable {P : Program} {w : World} {K : PySem.W.Frag} {mg : Str → Option Value} {base : Heap}
theorem cal_deal {f : Addr} {fd : FuncData} (F : Df K mg "_law_deal" sDeal ["_law_script", "_law_base"] f fd) (B : Bt mg) : CalNew P w K mg base "_law_deal" 1 := ⟨f, fd, _, ok_deal F.F B, F.g, F.F.kp, F.b⟩
def drawM : Md := fun ds P => ∃ n : Int, ds = [.int n] ∧ 1 ≤ n ∧ n < 1000000 ∧ ∀ r : Int, 0 ≤ r → r < n → P (.int r)
theorem cal_draw {f : Addr} {fd : FuncData} (F : Df K mg "_law_draw" sDraw ["_law_deal_here", "_law_many"] f fd) (B : Bt mg) : CalDl P w K mg base "_law_draw" 1 1 drawM := by
  refine ⟨f, fd, _, FnOk.weak (ok_draw F.F B) (fun vs H Q E h => ?_), F.g, F.F.kp, F.b⟩
  obtain ⟨G, p, c, us, ds, P', rfl, D, np, nc, sg, ra, hl, ⟨n, rfl, h1, h2, m⟩, k⟩ := h
  obtain ⟨v, rfl, q⟩ := rpAll1 ra
  cases (show v = .int n from q)
  refine ⟨p, c, n, rfl, D, h1, h2, fun r H' h0 hr D' s' => k (.int r) (.int r) H' G (m r h0 hr) D' ⟨fun a o n1 n2 e => ?_, Same.refl _, fun a o e => ?_, fun a z => .inl z⟩ rfl⟩
  · have q := s' a o (by rw [hide_ne n1 n2]; exact e)
    exact hide_le a o q
  · have n1 : a ≠ p := fun z => by rw [z, np] at e; cases e
    have n2 : a ≠ c := fun z => by rw [z, nc] at e; cases e
    exact hide_le a o (s' a o (by rw [hide_ne n1 n2]; exact sg a o e))
def pickM : Md := fun ds P => ∃ d l, ds = [d] ∧ seqB d = some l ∧ l ≠ [] ∧ l.length < 1000000 ∧ ∀ x ∈ l, P x
abbrev nPick : List Str := ["_law_deal_here", "_law_some"]
theorem scPick : FnScope nPick ["_law_deal_here", "_law_some"] (defScope sPick) := ⟨rfl, rfl, rfl, by decide +kernel, rfl, by decide +kernel, by decide +kernel⟩
theorem len_seq {d : D} {l : List D} (h : seqB d = some l) : lenB d = some l.length := by
  cases d with
  | lst m => cases h; rfl
  | tup m => cases h; rfl
  | _ => cases h
theorem ix_seq {d : D} {l : List D} {j : Nat} {x : D} {P : D → Prop} (h : seqB d = some l) (e : l[j]? = some x) (p : P x) : ixG d (.int (j : Int)) P := by
  cases d with
  | lst m =>
    cases h
    exact ⟨x, atI_nat e, p⟩
  | tup m =>
    cases h
    exact ⟨x, atI_nat e, p⟩
  | _ => cases h
theorem cal_pick {f : Addr} {fd : FuncData} (F : Df K mg "_law_pick" sPick ["_law_deal_here", "_law_some"] f fd) (C_law_draw : CalDl P w K mg base "_law_draw" 1 1 drawM) (B : Bt mg) : CalDl P w K mg base "_law_pick" 2 1 pickM := by
  refine ⟨f, fd, _, okDl F.F scPick rfl (fun cdv A outer s H E hr => ?_), F.g, F.F.kp, F.b⟩
  refine ⟨_, (pds_one (pds_ret (pd_ix (do_ix rfl) (pd_var 1) (pd_calDl C_law_draw (hr.mono (by decide)) (pv 0) (pda_cons (pd_blt (do_len rfl) B.len (pda_cons (pd_var 1) pda_nil)) pda_nil))))), ?_⟩
  rintro p c ds P' _ ⟨d, l, rfl, hd, hn, hl, m⟩
  have hpos := List.length_pos_iff.mpr hn
  refine ⟨p, c, rfl, l.length, len_seq hd, rfl, rfl, l.length, rfl, by omega, by omega, fun r h0 hr => ?_⟩
  obtain ⟨j, rfl⟩ := Int.eq_ofNat_of_zero_le h0
  have hj : j < l.length := by omega
  exact ix_seq hd (List.getElem?_eq_getElem hj) ⟨rfl, m _ (List.getElem_mem hj)⟩
def mixedM : Md := fun ds P => ∃ d l n, ds = [d] ∧ seqB d = some l ∧ (∀ x ∈ l, shN n x = true) ∧ n ≤ 60 ∧ l.length < 100000 ∧ ∀ ys : List D, ys.Perm l → P (.lst ys)
abbrev nMixed : List Str := ["_law_deal_here", "_law_some", "_law_left", "_law_found"]
theorem scMixed : FnScope nMixed ["_law_deal_here", "_law_some"] (defScope sMixed) := ⟨rfl, rfl, rfl, by decide +kernel, rfl, by decide +kernel, by decide +kernel⟩
theorem small6 {n : Nat} (h : n ≤ 1000000) : n < sizeLine := Nat.lt_of_le_of_lt h (by decide)
theorem cal_mixed {f : Addr} {fd : FuncData} (F : Df K mg "_law_mixed" sMixed ["_law_deal_here", "_law_some"] f fd) (C_law_draw : CalDl P w K mg base "_law_draw" 1 1 drawM) (B : Bt mg) : CalDl P w K mg base "_law_mixed" 2 1 mixedM := by
  refine ⟨f, fd, _, okDl F.F scMixed rfl (fun cdv A outer s H E hr => ?_), F.g, F.F.kp, F.b⟩
  refine ⟨_, (pds_cons (pds_parOO (i := 2) (j := 3) scMixed.nd (pf_list rfl B.list (pda_cons (pd_var 1) pda_nil)) (pf_lst pda_nil))
      (pds_cons (pds_while PassesOwn.never (pdt_cmpPl (do_ne rfl hr.units) (pv 2) (pd_lst pda_nil))
      (pds_one (pds_expr (pd_app (pv 3) (pd_popAt (pv 2) (pd_calDl C_law_draw (hr.mono (by decide)) (pv 0) (pda_cons (pd_lenPk rfl B.len (pv 2)) pda_nil)))))))
      (pds_one (pds_ret (pd_var 3))))), ?_⟩
  rintro p c ds P' _ ⟨d, l, n, rfl, hd, hs, hn, hl, m⟩
  refine ⟨d, l, rfl, hd, Nat.zero_le _, whS_inv (fun m ρ => ∃ left found : List D, left.length + 1 = m ∧ (found ++ left).Perm l ∧ ρ = [.deal p c, .val d, .own left, .own found]) (l.length + 1) ⟨l, [], rfl, List.Perm.refl _, rfl⟩ (fun ρ ⟨_, _, z, _⟩ => by omega) ?_⟩
  rintro k ρ T hT ⟨left, found, hk, hp, rfl⟩
  have hlen := hp.length_eq
  rw [List.length_append] at hlen
  have hs' : ∀ x ∈ left, shN n x = true := fun x hx => hs x (hp.mem_iff.mp (List.mem_append.mpr (.inr hx)))
  refine ⟨rfl, Nat.zero_le _, _, rfl, okEq_sh (n := n + 1) (m := 1) (shN_lst hs' (by omega)) rfl (by omega), rfl, _, rfl, ?_⟩
  rw [dEq_nil]
  cases left with
  | nil =>
    rw [List.append_nil] at hp
    exact iteF ⟨rfl, m _ hp⟩
  | cons y left =>
    refine iteT ?_
    refine ⟨⟨_, rfl⟩, ⟨_, rfl⟩, p, c, rfl, _, (y :: left).length, rfl, rfl, rfl, rfl, _, rfl, by show (1 : Int) ≤ ((left.length + 1 : Nat) : Int); omega, by rw [List.length_cons] at hlen ⊢; omega, fun r h0 hr => ?_⟩
    obtain ⟨j, rfl⟩ := Int.eq_ofNat_of_zero_le h0
    have hj : j < (y :: left).length := by omega
    refine ⟨_, j, _, rfl, rfl, Nat.lt_of_le_of_lt (show (y :: left).length ≤ 1000000 by omega) (by decide), List.getElem?_eq_getElem hj, _, rfl, small6 (by omega), ?_⟩
    refine hT _ ⟨_, _, ?_, ?_, rfl⟩
    · rw [List.length_eraseIdx_of_lt hj]
      rw [List.length_cons] at hk ⊢
      omega
    · rw [List.append_assoc]
      refine (List.Perm.append_left found ?_).trans hp
      exact erase_perm _ _ _ (List.getElem?_eq_getElem hj)
end
end Vf

set_option Elab.async false
set_option linter.all false
set_option maxRecDepth 100000
set_option maxHeartbeats 1000000
/-! more words of the data layer: a tuple of names and its index, sets of texts counted, numbers and texts made of texts, a list's part put anew, a def handed over -/
namespace Vf
open PySem PySem.Spec PyProof.Rows L2
def rTIndex (K : PySem.W.Frag) : V → List V → Hp → VK → Prop := fun x xs H Q => ∃ p, ∃ ys : List Str, ∃ z j, x = .ref p ∧ xs = [.str z] ∧ SqT K H p (ys.map V.str) ∧ ys[j]? = some z ∧ (∀ m, m < j → ys[m]? ≠ some z) ∧ Q (.int (j : Nat)) H
theorem call_tuple_frz {X : Cx} : CallR X (.type "tuple") (fun xs H Q => ∃ p ys, xs = [.ref p] ∧ SqL X.K H p ys ∧ ∀ l o, H l = none → o.cls = .type "tuple" → o.dict = none → Q (.ref l) (upd H l (.frz o (.tup ys)))) := by
  intro pins s σ H xs us Q I r h
  obtain ⟨p, ys, rfl, hq, q⟩ := h
  obtain ⟨u, rfl, rx⟩ := vals1 r
  cases rx
  obtain ⟨its, r', pl, hz⟩ := I.list hq
  have hlen := r'.length
  refine call_tuple_list pl.isList (fun h' kp => ?_) (by simp only [List.size_toArray] <;> omega)
  have I1 : Inv X pins σ H { s with heap := h' } := I.kept (t' := s.toks) kp
  have I2 := I1.laid (a := h'.objs.size) (o := .frz { cls := .type "tuple", data := .seq its.toArray } (.tup ys)) (h' := h'.push { cls := .type "tuple", data := .seq its.toArray }) (t' := s.toks) (fun b o e => Heap.get?_push_of_some _ e) (Nat.le_refl _) ⟨Heap.get?_push_size _ rfl, hz, its, r', IsTup.new _ _⟩
  exact ⟨.ref h'.objs.size, _, I2, rfl, q _ _ (I1.hok.fresh (Nat.le_refl _)) rfl rfl⟩
def tTIndex (K : PySem.W.Frag) (to : TE) (t : TA) : TE := fun σ H Q => to σ H fun x H1 => (∃ p xs, x = V.ref p ∧ NmT H1 p xs) ∧ t σ H1 fun xs H2 => rTIndex K x xs H2 Q
theorem pe_tindex {X : Cx} {o e : Expr} {es : List Expr} {to : TE} {t : TA} {apos cpos : Pos} (ho : PE X o to) (ha : PA X (e :: es) t)
    (h1 : attributeBase o "index" X.env (eval o X.env) = eval o X.env := by rfl)
    (h2 : ((backTo cpos (starEach (e :: es) X.env)).all (fun x => !x.1) && (backToKw cpos (keywordEach [] X.env)).all (fun x => x.1.isSome)
      && decide ((e :: es).length + ([] : List Keyword).length + (if ([] : List Keyword).isEmpty then 0 else 1) < 30)) = true := by rfl)
    (h3 : (apos.endLine == cpos.line) = true := by rfl) (h4 : starEach (e :: es) X.env = (false, eval e X.env) :: starEach es X.env := by rfl) (h5 : (backTo cpos (starEach es X.env)).any (·.1) = false := by rfl) :
    PE X (.Call (.Attribute o "index" apos) (e :: es) [] cpos) (tTIndex X.K to t) := by
  refine ⟨fun pins s σ H Q I h => ?_⟩
  refine wpAny_Call_method_late h1 h2 h3 rfl (thn (ho.run pins s σ H _ I h) fun v s1 ⟨x, H1, I1, r1, ty, q1⟩ => ?_)
  obtain ⟨p, xs, rfl, hq⟩ := ty
  obtain ⟨ob, hc, hd, hf⟩ := hq
  have ho' : s1.heap.get? p = some ob := (I1.hok p _ hf).1
  cases r1
  have ht : s1.TypeIs (.ref p) "tuple" := ⟨ob, ho', hc⟩
  refine ⟨"tuple", "tuple.index", PySem.F.plainAttrs_tuple, PySem.F.slot_tuple_index, PySem.F.type_tuple_index, ht, fun a e => ?_, ?_⟩
  · cases e
    exact ⟨ob, ho', hd⟩
  have hA := ha.run cpos pins s1 σ H1 _ I1 q1
  rw [h4] at hA ⊢
  refine Calls.callWith_builtin (by show (false || (backTo cpos (starEach es X.env)).any (·.1)) = false; rw [h5] <;> rfl) (Calls.evalArgs_plain ?_)
  exact thn hA fun us s2 ⟨vs, H2, I2, r2, q2⟩ => mt_tup_index pins s2 σ H2 (.ref p) vs (.ref p) us Q I2 rfl r2 q2

section
variable {X : Cx} {K : PySem.W.Frag} {W : WX}
/-- a tuple of names as a tuple -/
def plD : D → D
  | .nms zs => .tup (zs.map .str)
  | d => d
theorem rp_pl {G : Hp} {d : D} {v : V} (h : Rp K G v d) : Rp K G v (plD d) := by
  cases d with
  | nms zs =>
    obtain ⟨a, rfl, q⟩ := h
    exact ⟨a, _, rfl, q.sq, rp_strs zs⟩
  | _ => exact h
def tpD (F : DE) : DE := fun ρ P R => F ρ (fun d ρ1 => P (plD d) ρ1) R
theorem pd_tp {e : Expr} {F : DE} (h : PD K W X e F) : PD K W X e (tpD F) := PE.imp h fun σ H Q ⟨c, G, ρ, P, R, r, f, k, kx⟩ => ⟨c, G, ρ, _, R, r, f, fun d ρ1 v H1 G1 f1 r1 s1 q1 => k _ _ _ _ _ f1 r1 s1 (rp_pl q1), kx⟩
/-- tuple([..]) of texts, its object known -/
def nmsG : Gn := one fun d P => ∃ l zs, d = .lst l ∧ strL l = some zs ∧ P (.nms zs)
theorem do_names (hK : X.K = K) : CallR X (.type "tuple") (RDn K nmsG) := by
  refine call_one fun pins s σ H v us Q I r q => ?_
  subst hK
  obtain ⟨G, d, P, sg, rd, ⟨l, zs, rfl, ez, p⟩, k⟩ := q
  obtain ⟨a, xs, rfl, ea, ra⟩ := rd
  obtain rfl := strL_rp ez ra
  refine call_tuple_frz pins s σ H _ us Q I r ⟨a, _, rfl, SqL.of (sg _ _ ea), fun m o hn h1 h2 => ?_⟩
  exact k _ _ _ _ p (Ext.new sg hn) ⟨m, rfl, o, h1, h2, upd_same⟩
/-- names.index(e) -/
def tixD (Fo Fe : DE) : DE := fun ρ P R => Fo ρ (fun d ρ1 => (∃ zs, d = .nms zs) ∧ Fe ρ1 (fun e ρ2 => ∃ zs z j, d = .nms zs ∧ e = .str z ∧ zs[j]? = some z ∧ (∀ m, m < j → zs[m]? ≠ some z) ∧ P (.int (j : Nat)) ρ2) R) R
theorem pd_tix (hK : X.K = K) {o e : Expr} {Fo Fe : DE} {apos cpos : Pos} (ho : PD K W X o Fo) (he : PD K W X e Fe) (h1 : attributeBase o "index" X.env (eval o X.env) = eval o X.env := by rfl)
    (h2 : ((backTo cpos (starEach [e] X.env)).all (fun x => !x.1) && (backToKw cpos (keywordEach [] X.env)).all (fun x => x.1.isSome)
      && decide (([e]).length + ([] : List Keyword).length + (if ([] : List Keyword).isEmpty then 0 else 1) < 30)) = true := by rfl)
    (h3 : (apos.endLine == cpos.line) = true := by rfl) (h4 : starEach [e] X.env = (false, eval e X.env) :: starEach [] X.env := by rfl) (h5 : (backTo cpos (starEach [] X.env)).any (·.1) = false := by rfl) :
    PD K W X (.Call (.Attribute o "index" apos) [e] [] cpos) (tixD Fo Fe) := by
  refine PE.imp (pe_tindex ho (pa_cons he pa_nil h4) h1 h2 h3 h4 h5) fun σ H Q ⟨c, G, ρ, P, R, r, f, k, kx⟩ => ?_
  subst hK
  refine ⟨c, G, ρ, _, R, r, f, fun d ρ1 v H1 G1 f1 r1 s1 q1 => ?_, kx⟩
  obtain ⟨⟨zs, rfl⟩, f1⟩ := f1
  obtain ⟨a, rfl, qn⟩ := q1
  refine ⟨⟨a, _, rfl, qn.same r1.gh⟩, c, G1, ρ1, _, R, r1, f1, fun e ρ2 w H2 G2 f2 r2 s2 q2 => ?_, kx.step s1⟩
  obtain ⟨zs', z, j, ez, rfl, hj, hm, f2⟩ := f2
  cases ez
  cases (show w = _ from q2)
  exact ⟨a, zs, z, j, rfl, rfl, ((qn.same s2).same r2.gh).sq, hj, hm, k _ _ _ _ _ f2 r2 (s1.trans s2) rfl⟩
/-- len(set(e)), texts -/
def lsetD (F : DE) : DE := fun ρ P R => F ρ (fun d ρ1 => ∃ l zs, seqB d = some l ∧ strL l = some zs ∧ zs.length + 1 < scanBound ∧ ∀ n : Nat, Unlike zs n → P (.int n) ρ1) R
theorem pd_lset (hK : X.K = K) {a : Expr} {F : DE} {p p2 q pos : Pos} (hm : X.mg "len" = none) (hm2 : X.mg "set" = none) (ha : PD K W X a F) (hc : X.calm = true := by rfl) (hg : Gl X "len" := by rfl) (hg2 : Gl X "set" := by rfl)
    (he : starEach [a] X.env = (false, eval a X.env) :: starEach [] X.env := by rfl) (hpl : (backTo q (starEach [] X.env)).any (·.1) = false := by rfl)
    (he2 : starEach [.Call (.Name "set" p2) [a] [] q] X.env = (false, eval (.Call (.Name "set" p2) [a] [] q) X.env) :: starEach [] X.env := by rfl) (hpl2 : (backTo pos (starEach [] X.env)).any (·.1) = false := by rfl) :
    PD K W X (.Call (.Name "len" p) [.Call (.Name "set" p2) [a] [] q] [] pos) (lsetD F) := by
  refine PE.imp (pe_callB cr_lenTx hg hm PySem.boot_len (pa_cons (pe_callTy (cr_setTx hc) hg2 hm2 (by decide +kernel) (pa_cons ha pa_nil he) (by decide) (by decide) he hpl) pa_nil he2) (by decide) (by decide) he2 hpl2) fun σ H Q ⟨c, G, ρ, P, R, r, f, k, kx⟩ => ?_
  subst hK
  refine ⟨c, G, ρ, _, R, r, f, fun d ρ1 v H1 G1 f1 r1 s1 q1 => ?_, kx⟩
  obtain ⟨l, zs, el, ez, hl, f1⟩ := f1
  obtain ⟨a, xs, rfl, hs, ra⟩ := rp_seqE r1.gh el q1
  obtain rfl := strL_rp ez ra
  refine ⟨a, zs, rfl, hs, hl, fun m hm => ?_⟩
  refine ⟨m, zs, rfl, upd_same, hl, fun n hn => ?_⟩
  exact k _ _ _ _ _ (f1 n hn) (r1.ext (Ext.tmp r1.gh (same_new hm))) s1 rfl
/-- int(text), str(text), repr(number) -/
def intsG : Gn := one fun d P => ∃ a n, d = .str a ∧ PySem.intText? a = some n ∧ a.length ≤ 640 ∧ P (.int n)
theorem do_ints : CallR X (.type "int") (RDn K intsG) := by
  refine call_one fun pins s σ H v us Q I r q => ?_
  obtain ⟨G, d, P, sg, rd, ⟨a, n, rfl, e, hl, p⟩, k⟩ := q
  cases (show v = _ from rd)
  exact call_int_str pins s σ H _ us Q I r ⟨a, n, rfl, e, hl, k _ _ _ _ p (Ext.refl sg) rfl⟩
def strsG : Gn := one fun d P => ∃ a, d = .str a ∧ P (.str a)
theorem do_strs : CallR X (.type "str") (RDn K strsG) := by
  refine call_one fun pins s σ H v us Q I r q => ?_
  obtain ⟨G, d, P, sg, rd, ⟨a, rfl, p⟩, k⟩ := q
  cases (show v = _ from rd)
  exact SkE.call_str_str pins s σ H _ us Q I r ⟨a, rfl, k _ _ _ _ p (Ext.refl sg) rfl⟩
def repriG : Gn := one fun d P => ∃ i, d = .int i ∧ i.natAbs.log2 < 1920 ∧ P (.str (toString i))
theorem do_repri : CallR X (.builtin "repr") (RDn K repriG) := by
  refine call_one fun pins s σ H v us Q I r q => ?_
  obtain ⟨G, d, P, sg, rd, ⟨i, rfl, hi, p⟩, k⟩ := q
  cases (show v = _ from rd)
  exact SkE.call_repr_int pins s σ H _ us Q I r ⟨i, rfl, hi, k _ _ _ _ p (Ext.refl sg) rfl⟩
end
end Vf

set_option Elab.async false
set_option linter.all false
set_option maxRecDepth 100000
set_option maxHeartbeats 1000000
/-! calls: a def that a parameter holds, a class that a parameter holds, classmethods; a part of a list put anew; __init__ -/
namespace Vf
open PySem PySem.Spec PyProof.Rows L2
section
variable {X : Cx} {K : PySem.W.Frag} {W : WX}
/-- parameter(..), a def -/
def callAD (i : Nat) (S : Addr → Option Mc) (n : Nat) (Fs : DA) : DE := fun ρ P R => ∃ f M, ρ[i]? = some (.val (.obj f)) ∧ S f = some M ∧ Fs ρ (fun ds ρ1 => ds.length = n ∧ M ds (fun r => P r ρ1) noX) R
theorem pd_callA {i k n : Nat} {S : Addr → Option Mc} {x : Str} {p pos : Pos} {e : Expr} {es : List Expr} {Fs : DA} (hS : ∀ f M, S f = some M → Held X.prog X.w X.K X.mg X.base k f (spD K n M)) (hr : Room k X.A) (ha : PDA K W X (e :: es) Fs)
    (hN : X.N[i]? = some x := by rfl) (hv : Vis X.env.scope x := by first | exact Or.inl rfl | exact Or.inr (Or.inl rfl) | exact Or.inr (Or.inr rfl)) (hdb : (x == ("__debug__" : Str)) = false := by decide) (hcd : (x == ("__classdict__" : Str)) = false := by decide)
    (he : starEach (e :: es) X.env = (false, eval e X.env) :: starEach es X.env := by rfl) (hpl : (backTo pos (starEach es X.env)).any (·.1) = false := by rfl) : PD K W X (.Call (.Name x p) (e :: es) [] pos) (callAD i S n Fs) := by
  refine PE.imp (pe_callA (S := fun f => (S f).map (spD K n)) (fun f sp h => ?_) hr hN hv ha hdb hcd he hpl) fun σ H Q ⟨c, G, ρ, P, R, r, ⟨f, M, e1, e2, f1⟩, k, kx⟩ => ?_
  · have h : Option.map (spD K n) (S f) = some sp := h
    cases z : S f with
    | none => rw [z] at h; cases h
    | some M =>
      rw [z] at h
      cases h
      exact hS f M z
  · obtain ⟨v, ev, q⟩ := r.val e1
    cases (show v = .ref f from q)
    refine ⟨f, spD K n M, ev, by show Option.map (spD K n) (S f) = _; rw [e2]; rfl, c, G, ρ, _, R, r, f1, fun ds ρ1 vs H1 G1 f2 r1 s1 q1 => ?_, kx⟩
    exact ⟨G1, ds, _, _, r1.gh, q1, f2.1, f2.2, fun d v H' G' p ex rp => k _ _ _ _ _ p (r1.ext ex) (s1.trans ex.g) rp, fun _ _ _ _ _ z => z.elim⟩
/-- parameter(..), a class -/
theorem pe_makeL {CX : CXT} {i k : Nat} {f C : Addr} {fd : FuncData} {ps : List Str} {sp : Sp} {dvs : List V} {ds : List Value} {E : XK} {x : Str} {p pos : Pos} {e : Expr} {es : List Expr} {t : TA} (M : Mk X.K C f) (F : FnOk X.prog X.w X.K X.mg X.base CX k f fd ps sp) (hr : Room (k + 1) X.A) (hN : X.N[i]? = some x) (hv : Vis X.env.scope x)
    (hb : Binds X.K fd ps ds) (hd : Vals dvs ds) (hx : Passes CX X E) (ha : PA X (e :: es) t) (hdb : (x == ("__debug__" : Str)) = false := by decide) (hcd : (x == ("__classdict__" : Str)) = false := by decide)
    (he : starEach (e :: es) X.env = (false, eval e X.env) :: starEach es X.env := by rfl) (hpl : (backTo pos (starEach es X.env)).any (·.1) = false := by rfl) :
    PE X (.Call (.Name x p) (e :: es) [] pos) (fun σ H Q => σ[i]? = some (some (.ref C)) ∧ tMake C sp dvs E t σ H Q) := by
  refine ⟨fun pins s σ H Q I h => ?_⟩
  obtain ⟨hs, ht⟩ := h
  refine wpAny_Call_Name_kw (thn ((pe_var (pos := p) hN hv hdb hcd).run pins s σ H (fun v H1 => v = .ref C ∧ H1 = H) I ⟨.ref C, hs, rfl, rfl⟩) fun u s1 ⟨v, H1, I1, r1, q1⟩ => ?_)
  obtain ⟨rfl, rfl⟩ := q1
  cases r1
  refine PySem.W.callWith_K (h₀ := X.base) I1.ok.mod.kin M.kp (thn (ha.run pos pins s1 σ _ _ I1 ht) fun us s2 ⟨vs, H2, I2, r, q⟩ => ⟨I2.kIn, ?_⟩) he hpl
  exact run_make M F hr hb hd hx I2 r q
def makeLD (i : Nat) (C : Addr) (n : Nat) (M : Mi) (Fs : DA) : DE := fun ρ P R => ρ[i]? = some (.val (.obj C)) ∧ makeD C n M Fs ρ P R
theorem pd_makeL {y : Str} {i k n : Nat} {C : Addr} {M : Mi} {x : Str} {p pos : Pos} {e : Expr} {es : List Expr} {Fs : DA} (T : CalI X.prog X.w X.K X.mg X.base y C k n M) (hr : Room (k + 1) X.A) (ha : PDA K W X (e :: es) Fs) (hK : X.K = K := by rfl)
    (hN : X.N[i]? = some x := by rfl) (hv : Vis X.env.scope x := by first | exact Or.inl rfl | exact Or.inr (Or.inl rfl) | exact Or.inr (Or.inr rfl)) (hdb : (x == ("__debug__" : Str)) = false := by decide) (hcd : (x == ("__classdict__" : Str)) = false := by decide)
    (he : starEach (e :: es) X.env = (false, eval e X.env) :: starEach es X.env := by rfl) (hpl : (backTo pos (starEach es X.env)).any (·.1) = false := by rfl) : PD K W X (.Call (.Name x p) (e :: es) [] pos) (makeLD i C n M Fs) := by
  subst hK
  obtain ⟨f, fd, ps, F, Mm, _, hb⟩ := T.ex
  refine PE.imp (pe_makeL Mm F hr hN hv hb .nil pass0 ha hdb hcd he hpl) fun σ H Q ⟨c, G, ρ, P, R, r, ⟨e1, f⟩, k, kx⟩ => ?_
  obtain ⟨v, ev, q⟩ := r.val e1
  cases (show v = .ref C from q)
  refine ⟨ev, c, G, ρ, _, R, r, f, fun ds ρ1 vs H1 G1 f1 r1 s1 q1 x dx hx hd hne => ?_, kx⟩
  refine ⟨G1, x, dx, vs, ds, _, _, by rw [List.append_nil], upd_same, r1.gh.free hx, made_in r1 hx hd hne, q1, f1.1, f1.2, fun ns fs us' H' G' pf eh en ra kp sg gh gx nw => ⟨rfl, ?_⟩, fun _ _ _ _ _ z => z.elim⟩
  have ex := made_end r1 hx hd hne (C := C) (us := us') (by exact eh) kp sg gh gx nw
  exact k _ _ _ _ _ pf (r1.ext ex) (s1.trans ex.g) ⟨x, dx, us', rfl, upd_same, en, ra.mono (same_new gx)⟩
/-- Class.m(..), m a classmethod -/
structure CalC (P : Program) (w : World) (K : PySem.W.Frag) (mg : Str → Option Value) (base : Heap) (x : Str) (C : Addr) (m : Str) (k n : Nat) (M : Mc) : Prop where
  ex : ∃ mc p g, ClX.CRead K C mc ∧ ClX.CMet K C mc m p g ∧ FnR P w K mg base CX0 k g (spD K n M) ∧ mg x = some (.ref C)
def cmethD (C : Addr) (n : Nat) (M : Mc) (Fs : DA) : DE := fun ρ P R => Fs ρ (fun ds ρ1 => ds.length + 1 = n ∧ M (.obj C :: ds) (fun r => P r ρ1) noX) R
theorem pd_calC {x : Str} {C : Addr} {m : Str} {k n : Nat} {M : Mc} {px apos pos : Pos} {e : Expr} {es : List Expr} {Fs : DA} {pl : Sem Bool} (T : CalC X.prog X.w X.K X.mg X.base x C m k n M) (hr : Room k X.A) (ha : PDA K W X (e :: es) Fs) (hK : X.K = K := by rfl) (hg : Gl X x := by rfl) (hdb : (x == ("__debug__" : Str)) = false := by decide)
    (hst : starEach (e :: es) X.env = (false, eval e X.env) :: starEach es X.env := by rfl) (hpl : (backTo pos (starEach es X.env)).any (·.1) = false := by rfl)
    (ht : eval (.Call (.Attribute (.Name x px) m apos) (e :: es) [] pos) X.env = (do
      let ov ← eval (.Name x px) X.env
      standAt apos.atName
      let (f, first) ← holding [ov] (getMethod ov m pl)
      callWith pos f first (backTo pos (starEach (e :: es) X.env)) (backToKw pos (keywordEach [] X.env))) := by rfl) : PD K W X (.Call (.Attribute (.Name x px) m apos) (e :: es) [] pos) (cmethD C n M Fs) := by
  subst hK
  obtain ⟨mc, p, g, cr, cm, F, hm⟩ := T.ex
  refine PE.imp (ClX.pe_cmeth (pe_glob (v := .ref C) hg hm rfl hdb) cr cm F hr pass0 ha hst hpl ht) fun σ H Q ⟨c, G, ρ, P, R, r, f, k, kx⟩ => ?_
  refine ⟨rfl, c, G, ρ, _, R, r, f, fun ds ρ1 vs H1 G1 f1 r1 s1 q1 => ?_, kx⟩
  exact ⟨G1, .obj C :: ds, _, _, r1.gh, RpAll.cons rfl q1, f1.1, f1.2, fun d v H' G' p ex rp => k _ _ _ _ _ p (r1.ext ex) (s1.trans ex.g) rp, fun _ _ _ _ _ z => z.elim⟩
/-- x[i] = e, x a list of its own -/
def putS (j : Nat) (F Fi : DE) : DS := fun ρ e => F ρ (fun d ρ1 => (∃ l, ρ1[j]? = some (.own l)) ∧ Fi ρ1 (fun k ρ2 => ∃ l i m, ρ2[j]? = some (.own l) ∧ k = .int i ∧ ixN l.length i = some m ∧ e.nx (ρ2.set j (.own (l.set m d)))) e.rz) e.rz
theorem rp_set {G : Hp} {d : D} {v : V} (h : Rp K G v d) : ∀ {l : List D} {xs : List V} (m : Nat), RpAll K G xs l → RpAll K G (xs.set m v) (l.set m d)
  | [], _, m, r => by
    cases (show _ = [] from r)
    exact RpAll.nil
  | x :: l, _, 0, r => by
    obtain ⟨y, ys, rfl, q, t⟩ := r
    exact RpAll.cons h t
  | x :: l, _, m + 1, r => by
    obtain ⟨y, ys, rfl, q, t⟩ := r
    exact RpAll.cons q (rp_set h m t)
theorem pds_put {j : Nat} {y : Str} {py pos' pos : Pos} {value i : Expr} {F Fi : DE} (hv : PE X (.Name y py) (tVar j)) (he : PD K W X value F) (hi : PD K W X i Fi)
    (ha : ∀ v, assign (.Subscript (.Name y py) i pos') X.env v = (do
      let ov ← holding [v] (eval (.Name y py) X.env)
      let iv ← holding [v, ov] (eval i X.env)
      standAt pos'
      holding [v, ov, iv] (setItem ov iv v)
      release [v, ov, iv] []) := by intro _; rfl)
    (hs : swapsWithSole [.Subscript (.Name y py) i pos'] value pos.line X.env = pure false := by rfl) (hw : swappedStores [.Subscript (.Name y py) i pos'] value X.env = pure none := by rfl)
    (h1 : (assignEach [.Subscript (.Name y py) i pos'] X.env).map (·.2) = [assign (.Subscript (.Name y py) i pos') X.env] := by rfl) : PDS K W X (.Assign [.Subscript (.Name y py) i pos'] value pos) (putS j F Fi) := by
  refine PS.imp (ps_asg he (pg_sub hv hi set_list ha) hs hw h1) fun D σ H ⟨c, G, ρ, e, r, f, o⟩ => ?_
  refine ⟨c, G, ρ, _, _, r, f, fun d ρ1 v H1 G1 f1 r1 s1 q1 => ?_, o.rz σ⟩
  obtain ⟨⟨l0, e0⟩, f1⟩ := f1
  obtain ⟨a0, xs0, ev0, eh0, _⟩ := r1.ownL e0
  refine ⟨_, ev0, c, G1, ρ1, _, _, r1, f1, fun k ρ2 w H2 G2 f2 r2 s2 q2 => ?_, (o.rz σ).step s1⟩
  obtain ⟨l, i', m, el, rfl, em, f2⟩ := f2
  cases (show w = _ from q2)
  obtain ⟨a, xs, ev, eh, ra, ga, wr, _⟩ := r2.ownL el
  rw [ev0] at ev
  cases ev
  exact ⟨a0, xs, i', m, rfl, rfl, eh, by rw [ra.len]; exact em, o.nx _ _ _ _ f2 (wr _ _ (rp_set (q1.mono s2) m ra)) (s1.trans s2)⟩
end
section
variable {P : Program} {w : World} {K : PySem.W.Frag} {mg : Str → Option Value} {base : Heap}
/-- an __init__ that lets nothing out -/
theorem okI {x qual : Str} {st : Stmt} {f C : Addr} {fd : FuncData} {N ps : List Str} {k n : Nat} {M : Mi} (F : Fun K x qual st f fd) (S : FnScope N ps (defScope st)) (hn : n + 1 = ps.length)
    (hbody : ∀ (cdv : Value) (A : Around) (outer : List Env) (s : Shared) (H : Hp) (E : XK), Room k (A.deeper (envOfC qual (defScope st) s.heap.objs.size f cdv)) →
      ∃ Fb, PDSs K (fun cls d _ H => E cls d H) (cxOf CX0 P w K mg base N qual (defScope st) f cdv A outer s H E).nox (defBody st) Fb ∧ ∀ y dx ds P R, ds.length = n → M ds P R → Fb (evIn y dx C ds N) (endIn y dx C P R)) : FnOk P w K mg base CX0 (k + 1) f fd ps (spI K C n M) := by
  refine F.ok S (fun vs H Q E ⟨G, x, dx, us, ds, P, R, e, _, _, sg, ra, hl, _⟩ => by rw [e, List.length_cons, ra.len, hl, hn]) fun cdv A outer s H vs Q E hr h => ?_
  obtain ⟨Fb, h1, h2⟩ := hbody cdv A outer s H E hr
  exact init_go h1 h2 h
end
end Vf

set_option Elab.async false
set_option linter.all false
set_option maxRecDepth 100000
set_option maxHeartbeats 1000000
/-! basics, for any data: integers, numbers, sequences -/
namespace Vf
open PySem PySem.Spec PyProof.Rows L2
section
variable {P : Program} {w : World} {K : PySem.W.Frag} {mg : Str → Option Value} {base : Heap} {cs : List Addr}
abbrev nIsSequence : List Str := ["value"]
theorem scIsSequence : FnScope nIsSequence ["value"] (defScope sIsSequence) := ⟨rfl, rfl, rfl, by decide +kernel, rfl, by decide +kernel, by decide +kernel⟩
def isSeqD (d : D) : Bool := isLstD d || isTupD d
def isSeqM (cs : List Addr) : Mc := fun ds P _ => ∃ d, ds = [d] ∧ okTy cs d = true ∧ P (.bl (isSeqD d))
theorem cal_isSeq {f : Addr} {fd : FuncData} (F : Df K mg "is_sequence" sIsSequence ["value"] f fd) (B : Bt mg) (TC : ClsTab K cs) : Cal0 P w K mg base "is_sequence" 1 1 (isSeqM cs) := by
  refine ⟨f, fd, _, okD F.F scIsSequence rfl (fun cdv A outer s H E hr => ?_), F.g, F.F.kp, F.b⟩
  refine ⟨_, (pds_one (pds_ret (pd_isiT (c1 := (.ty "list")) (c2 := (.ty "tuple")) rfl TC B.isinstance (pd_var 0) (pe_bltn (v := .ty "list") (by rfl) B.list (by decide +kernel) rfl) (pe_bltn (v := .ty "tuple") (by rfl) B.tuple (by decide +kernel) rfl) (fun _ => rfl) (fun _ => rfl)))), ?_⟩
  rintro ds P' R _ ⟨d, rfl, ok, p⟩
  exact ⟨_, _, one_lst ok, one_tup ok, p⟩
abbrev nIsInteger : List Str := ["value"]
theorem scIsInteger : FnScope nIsInteger ["value"] (defScope sIsInteger) := ⟨rfl, rfl, rfl, by decide +kernel, rfl, by decide +kernel, by decide +kernel⟩
def isIntegerD : D → Bool
  | .int _ => true
  | _ => false
def isIntegerM (cs : List Addr) : Mc := fun ds P _ => ∃ d, ds = [d] ∧ okTy cs d = true ∧ P (.bl (isIntegerD d))
theorem cal_isInteger {f : Addr} {fd : FuncData} (F : Df K mg "is_integer" sIsInteger ["value"] f fd) (B : Bt mg) (TC : ClsTab K cs) : Cal0 P w K mg base "is_integer" 1 1 (isIntegerM cs) := by
  refine ⟨f, fd, _, okD F.F scIsInteger rfl (fun cdv A outer s H E hr => ?_), F.g, F.F.kp, F.b⟩
  refine ⟨_, (pds_one (pds_ret (pd_and (pd_blt (do_isi rfl TC) B.isinstance (pda_cons (pd_var 0) (pda_cons (pd_con (pe_bltn (v := .ty "int") (by rfl) B.int (by decide +kernel) rfl) (fun _ => rfl) (d := .ty "int")) pda_nil))) (pd_one (pd_not (pd_blt (do_isi rfl TC) B.isinstance (pda_cons (pd_var 0) (pda_cons (pd_con (pe_bltn (v := .ty "bool") (by rfl) B.bool (by decide +kernel) rfl) (fun _ => rfl) (d := .ty "bool")) pda_nil)))))))), ?_⟩
  rintro ds P' R _ ⟨d, rfl, ok, p⟩
  refine ⟨_, one_int ok, _, rfl, ?_⟩
  cases d with
  | int i => exact iteT ⟨_, one_bool ok, _, rfl, p⟩
  | bl b => exact iteT ⟨_, one_bool ok, _, rfl, p⟩
  | _ => exact iteF p
abbrev nIsNumber : List Str := ["value"]
theorem scIsNumber : FnScope nIsNumber ["value"] (defScope sIsNumber) := ⟨rfl, rfl, rfl, by decide +kernel, rfl, by decide +kernel, by decide +kernel⟩
def isNumD : D → Bool
  | .int i => decide (0 ≤ i)
  | _ => false
def isNumM (cs : List Addr) : Mc := fun ds P _ => ∃ d, ds = [d] ∧ okTy cs d = true ∧ P (.bl (isNumD d))
theorem cal_isNum {f : Addr} {fd : FuncData} (F : Df K mg "is_number" sIsNumber ["value"] f fd) (C_is_integer : Cal0 P w K mg base "is_integer" 1 1 (isIntegerM cs)) : Cal0 P w K mg base "is_number" 2 1 (isNumM cs) := by
  refine ⟨f, fd, _, okD F.F scIsNumber rfl (fun cdv A outer s H E hr => ?_), F.g, F.F.kp, F.b⟩
  refine ⟨_, (pds_one (pds_ret (pd_and (pd_cal C_is_integer (hr.mono (by decide)) (pda_cons (pd_var 0) pda_nil)) (pd_one (pd_cmp do_ge (pd_var 0) pd_int))))), ?_⟩
  rintro ds P' R _ ⟨d, rfl, ok, p⟩
  refine ⟨rfl, d, rfl, ok, _, rfl, ?_⟩
  cases d with
  | int i => exact iteT ⟨trivial, p⟩
  | _ => exact iteF p
end
end Vf

set_option Elab.async false
set_option linter.all false
set_option maxRecDepth 100000
set_option maxHeartbeats 1000000
/-! texts of numbers, of arrows, of pairs -/
namespace Vf
open PySem PySem.Spec PyProof.Rows L2
def digitL : Str := "0123456789"
structure CnT (K : PySem.W.Frag) (mg : Str → Option Value) : Prop where
  ex : ∃ (t1 t2 : Tok), mg "DIGITS" = some (.str digitL t1) ∧ mg "MOST_DIGITS" = some (.int 19 t2)
def optD {α : Type} (f : α → D) : Option α → D
  | some a => f a
  | none => .non
def digsB (w : Str) : Bool := (w.cps.toList.map fun c => decide (c ∈ digitL.cps.toList)).all id
def zeroB (w : Str) : Bool := decide (1 < w.length) && decide (w.cps.toList[0]? = some 48)
/-- number_told -/
def numB (w : Str) : Option Int := if ((decide (1 ≤ w.length) && decide (w.length ≤ 19)) && digsB w) = true then (if zeroB w = true then none else PySem.intText? w) else none
theorem digs_int {w : Str} (h1 : 1 ≤ w.length) (h2 : w.length ≤ 19) (h : digsB w = true) : ∃ n, PySem.intText? w = some n := by
  refine ⟨_, PySem.intText_digits (x := w) (fun c hc => ?_) (fun e => ?_) (by omega)⟩
  · unfold digsB at h
    rw [List.all_eq_true] at h
    have := h _ (List.mem_map.mpr ⟨c, hc, rfl⟩)
    simp only [id, decide_eq_true_eq] at this
    have q : ∀ c ∈ digitL.cps.toList, 48 ≤ c ∧ c ≤ 57 := by decide +kernel
    exact q c this
  · have : w.length = w.cps.toList.length := by simp [Str.length]
    rw [e] at this
    rw [this] at h1
    exact absurd h1 (by decide)
section
variable {P : Program} {w : World} {K : PySem.W.Frag} {mg : Str → Option Value} {base : Heap} {cs : List Addr}
def numToldM : Mc := fun ds P _ => ∃ z, ds = [.str z] ∧ z.length ≤ 1000000 ∧ P (optD .int (numB z))
abbrev nNumberTold : List Str := ["word", "digit"]
theorem scNumberTold : FnScope nNumberTold ["word"] (defScope sNumberTold) := ⟨rfl, rfl, rfl, by decide +kernel, rfl, by decide +kernel, by decide +kernel⟩
theorem cal_numTold {f : Addr} {fd : FuncData} (F : Df K mg "number_told" sNumberTold ["word"] f fd) (B : Bt mg) (C : CnT K mg) : Cal0 P w K mg base "number_told" 1 1 numToldM := by
  obtain ⟨t1, t2, g1, g2⟩ := C.ex
  refine ⟨f, fd, _, okD F.F scNumberTold rfl (fun cdv A outer s H E hr => ?_), F.g, F.F.kp, F.b⟩
  refine ⟨_, (pds_cons (pds_if (pdt_w (pdw_or (pdt_not (pdt_chn do_le do_le pd_int (pd_blt (do_len rfl) B.len (pda_cons (pd_var 0) pda_nil)) (pd_glob (v := .int 19) (d := .int 19) (fun _ => rfl) rfl g2 ⟨_, rfl⟩))) (pdw_or1 (pdt_not (pdt_val (pd_blt (do_all rfl rfl) B.all (pda_cons (pd_fr (pf_lc (own := [("digit", 1)]) (W' := fun _ _ _ _ => False) scNumberTold.nd (pdi_str (pd_var 0)) (blkOk_by (N := nNumberTold) (sc := defScope sNumberTold) (by decide +kernel)) (fun _ _ _ _ _ => (pg_name (i := 1) scNumberTold.nd rfl (by first | exact .inl rfl | exact .inr rfl))) (tg_nm 1) (fun _ _ _ _ _ => pdts_nil) (fun _ _ _ _ _ => (pd_cmp (do_in rfl (u65 hr)) (pd_var 1) (pd_glob (v := .str digitL) (d := .str digitL) (fun _ => rfl) rfl g1 ⟨_, rfl⟩))))) pda_nil)))))))
      (pds_one (pds_ret pd_non)) pds_nil)
      (pds_cons (pds_if (pdt_w (pdw_and (pdt_cmp do_gt (pd_blt (do_len rfl) B.len (pda_cons (pd_var 0) pda_nil)) pd_int) (pdw_and1 (pdt_cmp (do_eq rfl hr.units) (pd_ix (do_ix rfl) (pd_var 0) pd_int) pd_str))))
      (pds_one (pds_ret pd_non)) pds_nil)
      (pds_one (pds_ret (pd_bty do_ints B.int (pda_cons (pd_var 0) pda_nil)))))), ?_⟩
  rintro ds P' R _ ⟨z, rfl, sm, p⟩
  have sz : z.length ≤ sizeLine := big_le sm
  unfold numB at p
  have c1 : ((1 : Int) ≤ (z.length : Int)) ↔ 1 ≤ z.length := by omega
  have c6 : ((z.length : Int) ≤ 19) ↔ z.length ≤ 19 := by omega
  refine ⟨z.length, len_str sz, trivial, _, rfl, ?_⟩
  by_cases h1 : 1 ≤ z.length
  · rw [decide_eq_true h1, Bool.true_and] at p
    rw [decide_eq_true (c1.mpr h1)]
    refine iteT ⟨trivial, _, rfl, ?_⟩
    by_cases h6 : z.length ≤ 19
    · rw [decide_eq_true h6, Bool.true_and] at p
      rw [decide_eq_true (c6.mpr h6)]
      refine iteF ?_
      refine ⟨z, rfl, ⟨trivial, trivial⟩, ?_⟩
      refine cmpD_pure (fun d => match d with
        | .str w => some (.bl (decide (∃ c ∈ w.cps.toList, c ∈ digitL.cps.toList)))
        | _ => none) ?_ (fun d hd T hT => ?_) ?_
      · rw [List.length_map, Array.length_toList]
        show 0 + z.length ≤ _
        omega
      · obtain ⟨c, hc, rfl⟩ := List.mem_map.mp hd
        refine ⟨rfl, iteT ⟨_, rfl, rfl, ?_⟩⟩
        simpa using hT
      · have e2 : ∀ l : List Nat, (l.map fun c => D.str ⟨#[c]⟩).filterMap (fun d => match d with
            | .str w => some (D.bl (decide (∃ c ∈ w.cps.toList, c ∈ digitL.cps.toList)))
            | _ => none) = (l.map fun c => decide (c ∈ digitL.cps.toList)).map D.bl := by
          intro l
          induction l with
          | nil => rfl
          | cons c l ih =>
            rw [List.map_cons, List.map_cons, List.map_cons, List.filterMap_cons, ih]
            simp
        refine ⟨_, _, rfl, by rw [List.nil_append, e2]; exact bls_map _, _, rfl, ?_⟩
        show if (!digsB z) = true then _ else _
        cases hd : digsB z with
        | false =>
          rw [hd] at p
          exact iteT p
        | true =>
          rw [hd] at p
          refine iteF ?_
          refine ⟨z.length, len_str sz, trivial, _, rfl, ?_⟩
          have p : P' (optD .int (if zeroB z = true then none else PySem.intText? z)) := p
          have c0 : ((1 : Int) < (z.length : Int)) ↔ 1 < z.length := by omega
          have fin : zeroB z = false → P' (optD .int (PySem.intText? z)) → ∃ a n, D.str z = .str a ∧ PySem.intText? a = some n ∧ a.length ≤ 640 ∧ P' (.int n) := fun _ q => by
            obtain ⟨n, en⟩ := digs_int h1 h6 hd
            rw [en] at q
            exact ⟨z, n, rfl, en, by omega, q⟩
          by_cases h0 : 1 < z.length
          · rw [decide_eq_true (c0.mpr h0)]
            refine iteT ?_
            have hl : z.length = z.cps.toList.length := by simp [Str.length]
            have hp : 0 < z.cps.toList.length := by omega
            refine ⟨sz, z.cps.toList[0], atI_nat (j := 0) (List.getElem?_eq_getElem hp), .inl rfl, _, rfl, ?_⟩
            have e0 : z.cps.toList[0]? = some z.cps.toList[0] := List.getElem?_eq_getElem hp
            have ez : zeroB z = decide (z.cps.toList[0] = 48) := by
              unfold zeroB
              rw [decide_eq_true h0, e0, Bool.true_and]
              simp
            have ed : dEq (.str ⟨#[z.cps.toList[0]]⟩) (.str "0") = decide (z.cps.toList[0] = 48) := by
              show ((⟨#[z.cps.toList[0]]⟩ : Str) == ("0" : Str)) = _
              have e48 : ("0" : Str) = ⟨#[48]⟩ := by decide +kernel
              rw [e48]
              by_cases h : z.cps.toList[0] = 48
              · rw [h]
                decide +kernel
              · rw [decide_eq_false h]
                exact beq_eq_false_iff_ne.mpr fun y => h (by injection y with y; injection y with y; injection y)
            rw [ed, ← ez]
            cases hz : zeroB z with
            | true =>
              rw [hz] at p
              exact iteT p
            | false =>
              rw [hz] at p
              exact iteF (fin hz p)
          · rw [decide_eq_false fun y => h0 (c0.mp y)]
            have hz : zeroB z = false := by
              unfold zeroB
              rw [decide_eq_false h0, Bool.false_and]
            rw [hz] at p
            exact iteF (fin hz p)
    · rw [decide_eq_false h6, Bool.false_and] at p
      rw [decide_eq_false fun z' => h6 (c6.mp z')]
      exact iteT p
  · rw [decide_eq_false h1, Bool.false_and, Bool.false_and] at p
    rw [decide_eq_false fun z' => h1 (c1.mp z')]
    exact iteF ⟨_, rfl, iteT p⟩
end
end Vf

set_option Elab.async false
set_option linter.all false
set_option maxRecDepth 100000
set_option maxHeartbeats 1000000
/-! texts of arrows, of pairs -/
namespace Vf
open PySem PySem.Spec PyProof.Rows L2
def pairD (q : Str × Str) : D := .tup [.str q.1, .str q.2]
/-- pair_told -/
def pairB (z : Str) : Option (Str × Str) := match Txt.split z " " with
  | [a, b, c] => if (decide (a = "ahead") && (nameB b && nameB c)) = true then some (b, c) else none
  | _ => none
/-- arrow_told -/
def arrB (z : Str) : Option Tri := match Txt.split z " " with
  | [a, b, c] => if (nameB a && nameB b) = true then (numB c).map fun n => (a, b, n) else none
  | _ => none
theorem three {α : Type} : ∀ {l : List α}, l.length = 3 → ∃ a b c, l = [a, b, c]
  | [a, b, c], _ => ⟨a, b, c, rfl⟩
theorem pairB_three {z a b c : Str} (h : Txt.split z " " = [a, b, c]) : pairB z = if (decide (a = "ahead") && (nameB b && nameB c)) = true then some (b, c) else none := by
  unfold pairB
  rw [h]
theorem arrB_three {z a b c : Str} (h : Txt.split z " " = [a, b, c]) : arrB z = if (nameB a && nameB b) = true then (numB c).map fun n => (a, b, n) else none := by
  unfold arrB
  rw [h]
theorem pairB_else {z : Str} (h : (Txt.split z " ").length ≠ 3) : pairB z = none := by
  unfold pairB
  split
  · rename_i e
    rw [e] at h
    exact absurd rfl h
  · rfl
theorem arrB_else {z : Str} (h : (Txt.split z " ").length ≠ 3) : arrB z = none := by
  unfold arrB
  split
  · rename_i e
    rw [e] at h
    exact absurd rfl h
  · rfl
theorem eq_dec {a b : Str} : dEq (.str a) (.str b) = decide (a = b) := by
  show (a == b) = _
  by_cases h : a = b
  · rw [h, decide_eq_true rfl]
    exact beq_self_eq_true b
  · rw [decide_eq_false h]
    exact beq_eq_false_iff_ne.mpr h
theorem int_dec {a b : Int} : dEq (.int a) (.int b) = decide (a = b) := by
  show (a == b) = _
  by_cases h : a = b
  · rw [h, decide_eq_true rfl]
    exact beq_self_eq_true b
  · rw [decide_eq_false h]
    exact beq_eq_false_iff_ne.mpr h
section
variable {P : Program} {w : World} {K : PySem.W.Frag} {mg : Str → Option Value} {base : Heap} {cs : List Addr}
def txtM (g : Str → D) : Mc := fun ds P _ => ∃ z, ds = [.str z] ∧ z.length ≤ 900000 ∧ P (g z)
abbrev pairToldM : Mc := txtM fun z => optD pairD (pairB z)
abbrev arrToldM : Mc := txtM fun z => optD triD' (arrB z)
abbrev nArrowTold : List Str := ["part", "words", "less"]
theorem scArrowTold : FnScope nArrowTold ["part"] (defScope sArrowTold) := ⟨rfl, rfl, rfl, by decide +kernel, rfl, by decide +kernel, by decide +kernel⟩
theorem cal_arrTold {f : Addr} {fd : FuncData} (F : Df K mg "arrow_told" sArrowTold ["part"] f fd) (C_is_name : Cal0 P w K mg base "is_name" 1 1 (isNameM cs)) (C_number_told : Cal0 P w K mg base "number_told" 1 1 numToldM) (B : Bt mg) : Cal0 P w K mg base "arrow_told" 2 1 arrToldM := by
  refine ⟨f, fd, _, okD F.F scArrowTold rfl (fun cdv A outer s H E hr => ?_), F.g, F.F.kp, F.b⟩
  refine ⟨_, (pds_cons (pds_set (i := 1) scArrowTold.nd (pd_split (pd_var 0) pd_str))
      (pds_cons (pds_if (pdt_w (pdw_or (pdt_cmp (do_ne rfl hr.units) (pd_blt (do_len rfl) B.len (pda_cons (pd_var 1) pda_nil)) pd_int) (pdw_or (pdt_not (pdt_val (pd_cal C_is_name (hr.mono (by decide)) (pda_cons (pd_ix (do_ix rfl) (pd_var 1) pd_int) pda_nil)))) (pdw_or1 (pdt_not (pdt_val (pd_cal C_is_name (hr.mono (by decide)) (pda_cons (pd_ix (do_ix rfl) (pd_var 1) pd_int) pda_nil))))))))
      (pds_one (pds_ret pd_non)) pds_nil)
      (pds_cons (pds_set (i := 2) scArrowTold.nd (pd_cal C_number_told (hr.mono (by decide)) (pda_cons (pd_ix (do_ix rfl) (pd_var 1) pd_int) pda_nil)))
      (pds_cons (pds_if (pdt_cmp do_isN (pd_var 2) pd_non)
      (pds_one (pds_ret pd_non)) pds_nil)
      (pds_one (pds_ret (pd_tup (pda_cons (pd_ix (do_ix rfl) (pd_var 1) pd_int) (pda_cons (pd_ix (do_ix rfl) (pd_var 1) pd_int) (pda_cons (pd_var 2) pda_nil)))))))))), ?_⟩
  rintro ds P' R _ ⟨z, rfl, sm, p⟩
  dsimp only at p
  refine ⟨⟨z, rfl⟩, z, " ", rfl, rfl, by decide +kernel, big_le (by omega), ?_⟩
  refine ⟨_, rfl, .inl rfl, _, rfl, ?_⟩
  have hs : ∀ a ∈ Txt.split z " ", a.length ≤ z.length := fun a h => part_short h
  rw [int_dec, List.length_map]
  by_cases h3 : (Txt.split z " ").length = 3
  · obtain ⟨a, b, c, e⟩ := three h3
    have p : P' (optD triD' (if (nameB a && nameB b) = true then (numB c).map fun n => (a, b, n) else none)) := arrB_three e ▸ p
    rw [e] at hs ⊢
    have ha := hs a (by simp)
    have hb := hs b (by simp)
    have hc := hs c (by simp)
    refine iteF ⟨_, atI_nat (j := 0) rfl, rfl, _, rfl, rfl, big_le (by omega), _, rfl, ?_⟩
    show if (!nameB a) = true then _ else _
    cases na : nameB a with
    | false =>
      rw [na] at p
      exact iteT p
    | true =>
      rw [na] at p
      refine iteF ⟨_, atI_nat (j := 1) rfl, rfl, _, rfl, rfl, big_le (by omega), _, rfl, ?_⟩
      show if (!nameB b) = true then _ else _
      cases nb : nameB b with
      | false =>
        rw [nb] at p
        exact iteT p
      | true =>
        rw [nb] at p
        refine iteF ⟨_, atI_nat (j := 2) rfl, rfl, c, rfl, by omega, ?_⟩
        cases nc : numB c with
        | none =>
          rw [nc] at p
          exact ⟨rfl, _, rfl, iteT p⟩
        | some n =>
          rw [nc] at p
          exact ⟨rfl, _, rfl, iteF ⟨_, atI_nat (j := 0) rfl, _, atI_nat (j := 1) rfl, (by show 3 ≤ sizeLine; decide), p⟩⟩
  · rw [arrB_else h3] at p
    rw [decide_eq_false (by omega)]
    exact iteT p
end
end Vf

set_option Elab.async false
set_option linter.all false
set_option maxRecDepth 100000
set_option maxHeartbeats 1000000
/-! comprehensions over mapped lists, cuts, parts of texts, names -/
namespace Vf
open PySem PySem.Spec PyProof.Rows L2
section
variable {Fg : DG} {Ft : DT} {Fe : DE} {vs : List Nat} {ρ : Ev} {Q : List D → Prop} {α : Type}
theorem cmpD_fm (g : α → D) (f : α → Option D) : ∀ {l : List α} {acc : List D}, acc.length + l.length ≤ 1000000 →
    (∀ d ∈ l, ∀ (T : Option D → Prop), T (f d) → Fg (g d) (wipeE ρ vs) fun ρ1 => Ft ρ1 (fun b ρ2 => ρ2 = ρ1 ∧ if b = true then Fe ρ1 (fun x ρ3 => ρ3 = ρ1 ∧ T (some x)) noR else T none) noR) → Q (acc ++ l.filterMap f) → cmpD Fg Ft Fe vs ρ (l.map g) acc Q
  | [], acc, _, _, q => by
    rw [List.filterMap_nil, List.append_nil] at q
    exact q
  | d :: ds, acc, hz, h, q => by
    rw [List.length_cons] at hz
    have hl : acc.length < sizeLine := Nat.lt_of_le_of_lt (show acc.length ≤ 1000000 by omega) (by decide)
    have hd := h d List.mem_cons_self (fun o => match o with
      | some x => acc.length < sizeLine ∧ cmpD Fg Ft Fe vs ρ (ds.map g) (acc ++ [x]) Q
      | none => cmpD Fg Ft Fe vs ρ (ds.map g) acc Q)
    refine hd ?_
    cases e : f d with
    | none =>
      rw [List.filterMap_cons_none e] at q
      exact cmpD_fm g f (by omega) (fun d' hd' => h d' (List.mem_cons_of_mem _ hd')) q
    | some x =>
      rw [List.filterMap_cons_some e] at q
      refine ⟨hl, cmpD_fm g f (by rw [List.length_append]; show acc.length + 1 + ds.length ≤ _; omega) (fun d' hd' => h d' (List.mem_cons_of_mem _ hd')) ?_⟩
      rw [List.append_assoc]
      exact q
/-- [h(x) for x in ..] -/
theorem cmpD_map (g h : α → D) {l : List α} (hz : l.length ≤ 1000000) (hs : ∀ d ∈ l, ∀ (T : D → Prop), T (h d) → Fg (g d) (wipeE ρ vs) fun ρ1 => Fe ρ1 (fun x ρ3 => ρ3 = ρ1 ∧ T x) noR) (q : Q (l.map h)) : cmpD Fg yesT Fe vs ρ (l.map g) [] Q := by
  refine cmpD_fm g (fun a => some (h a)) (by show 0 + _ ≤ _; omega) (fun d hd T hT => ?_) ?_
  · have e : (fun ρ1 => yesT ρ1 (fun b ρ2 => ρ2 = ρ1 ∧ if b = true then Fe ρ1 (fun x ρ3 => ρ3 = ρ1 ∧ T (some x)) noR else T none) noR) = fun ρ1 => Fe ρ1 (fun x ρ3 => ρ3 = ρ1 ∧ T (some x)) noR := by
      funext ρ1
      refine propext ⟨fun h => ?_, fun h => ⟨rfl, iteT h⟩⟩
      have h2 := h.2
      rw [if_pos rfl] at h2
      exact h2
    rw [e]
    exact hs d hd (fun x => T (some x)) hT
  · rw [List.nil_append]
    have e : ∀ l : List α, l.filterMap (fun a => some (h a)) = l.map h := by
      intro l
      induction l with
      | nil => rfl
      | cons a l ih => rw [List.filterMap_cons_some (f := fun a => some (h a)) (b := h a) rfl, ih, List.map_cons]
    rw [e]
    exact q
theorem cmpD_mapD (h : D → D) {l : List D} (hz : l.length ≤ 1000000) (hs : ∀ d ∈ l, ∀ (T : D → Prop), T (h d) → Fg d (wipeE ρ vs) fun ρ1 => Fe ρ1 (fun x ρ3 => ρ3 = ρ1 ∧ T x) noR) (q : Q (l.map h)) : cmpD Fg yesT Fe vs ρ l [] Q := by
  have z := cmpD_map (fun d => d) h hz hs q
  rw [List.map_id'] at z
  exact z
end
theorem cut_from {α : Type} (l : List α) (k : Nat) : cutL l (some (k : Int)) none = l.drop k := by
  unfold cutL
  rw [HT.sIx_nat, HT.sIx_none, List.take_of_length_le (by rw [List.length_drop]; omega)]
  by_cases h : k ≤ l.length
  · rw [Nat.min_eq_left h]
  · rw [Nat.min_eq_right (by omega), List.drop_length, List.drop_eq_nil_of_le (by omega)]
theorem cut_to {α : Type} (l : List α) (k : Nat) : cutL l none (some (k : Int)) = l.take k := by
  unfold cutL
  rw [HT.sIx_nat, HT.sIx_none, List.drop_zero, Nat.sub_zero]
  by_cases h : k ≤ l.length
  · rw [Nat.min_eq_left h]
  · rw [Nat.min_eq_right (by omega), List.take_of_length_le (Nat.le_refl _), List.take_of_length_le (by omega)]
theorem sub_len (x : Str) (i j : Nat) : (Builtin.Str.strSub x i j).length ≤ x.length := by
  rw [TL.len_tl, TL.tl_strSub, TL.len_tl x, List.length_take, List.length_drop]
  omega
theorem part_len (x y : Str) : (Txt.partition x y).1.length ≤ x.length ∧ (Txt.partition x y).2.2.length ≤ x.length ∧ (Txt.partition x y).2.1.length ≤ y.length := by
  unfold Txt.partition
  split
  · exact ⟨sub_len _ _ _, sub_len _ _ _, Nat.le_refl _⟩
  · exact ⟨Nat.le_refl _, Nat.zero_le _, Nat.zero_le _⟩
theorem nameB_facts {z : Str} (h : nameB z = true) : 1 ≤ z.length ∧ z.length ≤ 6 ∧ z ∉ keptL ∧ ∀ c ∈ z.cps.toList, 97 ≤ c ∧ c ≤ 122 := by
  unfold nameB at h
  rw [Bool.and_eq_true, Bool.and_eq_true, Bool.and_eq_true, decide_eq_true_eq, decide_eq_true_eq] at h
  obtain ⟨⟨h1, h2⟩, h3, h4⟩ := h
  refine ⟨h1, h2, fun hm => ?_, fun c hc => ?_⟩
  · rw [Bool.not_eq_true', List.any_eq_false] at h3
    exact h3 z hm (beq_self_eq_true z)
  · rw [List.all_eq_true] at h4
    have := h4 _ (List.mem_map.mpr ⟨c, hc, rfl⟩)
    simp only [id, decide_eq_true_eq] at this
    have q : ∀ c ∈ letterL.cps.toList, 97 ≤ c ∧ c ≤ 122 := by decide +kernel
    exact q c this
theorem strOk_of {z : Str} {n : Nat} (hn : n < 1114112) (h : ∀ c ∈ z.cps.toList, c ≤ n) : PyData.strOk z = true := by
  unfold PyData.strOk
  rw [← Array.all_toList, List.all_eq_true]
  intro c hc
  have := h c hc
  exact decide_eq_true (by omega)
theorem nameB_sh {n : Nat} {z : Str} (h : nameB z = true) : shN n (.str z) = true := by
  obtain ⟨h1, h2, h3, h4⟩ := nameB_facts h
  show (PyData.strOk z && decide (z.length ≤ 1000000)) = true
  rw [strOk_of (n := 122) (by decide) fun c hc => (h4 c hc).2, decide_eq_true (by omega)]
  rfl
theorem bls_fun {α : Type} (f : α → Bool) (l : List α) : bls (l.map fun a => D.bl (f a)) = some (l.map f) := by
  rw [← bls_map (l.map f), List.map_map]
  rfl
end Vf

set_option Elab.async false
set_option linter.all false
set_option maxRecDepth 100000
set_option maxHeartbeats 1000000
/-! texts of steps; rows of texts -/
namespace Vf
open PySem PySem.Spec PyProof.Rows L2
abbrev Row := Str × List Str × List Tri
def rowD (r : Row) : D := .tup [.str r.1, .lst (r.2.1.map .str), .lst (r.2.2.map triD')]
def allSome {α : Type} : List (Option α) → Option (List α)
  | [] => some []
  | none :: _ => none
  | some a :: l => (allSome l).map fun r => a :: r
def arrsB (p : Str × Str × Str) : Option (List Tri) := if p.2.1.length = 0 then some [] else allSome ((Txt.split p.2.2 ", ").map arrB)
/-- step_told -/
def stepB (z : Str) : Option Row := match Txt.split (Txt.partition z " go ").1 " " with
  | a :: m :: b :: bs => if (decide (m = "at") && (nameB a && (b :: bs).all nameB)) = true then (arrsB (Txt.partition z " go ")).map fun ar => (a, b :: bs, ar) else none
  | _ => none
theorem allSome_none {α : Type} : ∀ {l : List (Option α)}, none ∈ l → allSome l = none
  | [], h => by cases h
  | none :: _, _ => rfl
  | some a :: l, h => by
    have h : none ∈ l := by
      rcases List.mem_cons.mp h with h | h
      · cases h
      · exact h
    show (allSome l).map _ = none
    rw [allSome_none h]
    rfl
theorem allSome_some {α : Type} : ∀ {l : List (Option α)}, none ∉ l → ∃ r, allSome l = some r ∧ l = r.map some
  | [], _ => ⟨[], rfl, rfl⟩
  | none :: _, h => absurd List.mem_cons_self h
  | some a :: l, h => by
    obtain ⟨r, e, q⟩ := allSome_some (l := l) fun z => h (List.mem_cons_of_mem _ z)
    refine ⟨a :: r, ?_, by rw [List.map_cons, ← q]⟩
    show (allSome l).map _ = _
    rw [e]
    rfl
theorem allSome_map {α β : Type} {f : α → Option β} : ∀ {l : List α} {r : List β}, l.map f = r.map some → allSome (l.map f) = some r
  | [], [], _ => rfl
  | [], _ :: _, h => by cases h
  | _ :: _, [], h => by cases h
  | a :: l, b :: r, h => by
    rw [List.map_cons, List.map_cons] at h
    injection h with h1 h2
    rw [List.map_cons, h1]
    show (allSome (l.map f)).map _ = _
    rw [allSome_map h2]
    rfl
theorem arrB_names {z : Str} {t : Tri} (h : arrB z = some t) : nameB t.1 = true ∧ nameB t.2.1 = true := by
  unfold arrB at h
  split at h
  · rename_i a b c e
    split at h
    · rename_i hn
      rw [Bool.and_eq_true] at hn
      cases z : numB c with
      | none => rw [z] at h; cases h
      | some n =>
        rw [z] at h
        cases h
        exact hn
    · cases h
  · cases h
theorem sh_tri {n : Nat} {t : Tri} (h : nameB t.1 = true ∧ nameB t.2.1 = true) : shN (n + 1) (triD' t) = true := by
  refine shN_tup (fun d hd => ?_) (by show 3 ≤ 1000000; decide)
  simp only [List.mem_cons, List.not_mem_nil, or_false] at hd
  rcases hd with rfl | rfl | rfl
  · exact nameB_sh h.1
  · exact nameB_sh h.2
  · rfl
theorem sh_arr {n : Nat} {z : Str} : shN (n + 1) (optD triD' (arrB z)) = true := by
  cases e : arrB z with
  | none => rfl
  | some t => exact sh_tri (arrB_names e)
section
variable {P : Program} {w : World} {K : PySem.W.Frag} {mg : Str → Option Value} {base : Heap} {cs : List Addr}
abbrev stepToldM : Mc := txtM fun z => optD rowD (stepB z)
abbrev nStepTold : List Str := ["line", "head", "mark", "tail", "words", "arrows", "part", "word"]
theorem scStepTold : FnScope nStepTold ["line"] (defScope sStepTold) := ⟨rfl, rfl, rfl, by decide +kernel, rfl, by decide +kernel, by decide +kernel⟩
theorem cal_stepTold {f : Addr} {fd : FuncData} (F : Df K mg "step_told" sStepTold ["line"] f fd) (C_is_name : Cal0 P w K mg base "is_name" 1 1 (isNameM cs)) (C_arrow_told : Cal0 P w K mg base "arrow_told" 2 1 arrToldM) (B : Bt mg) : Cal0 P w K mg base "step_told" 3 1 stepToldM := by
  refine ⟨f, fd, _, okD F.F scStepTold rfl (fun cdv A outer s H E hr => ?_), F.g, F.F.kp, F.b⟩
  refine ⟨_, (pds_cons (pds_asg (pd_part (pd_var 0) pd_str) (pg_tup rfl (pgs_cons (pg_name (i := 1) scStepTold.nd rfl (by first | exact .inl rfl | exact .inr rfl)) (pgs_cons (pg_name (i := 2) scStepTold.nd rfl (by first | exact .inl rfl | exact .inr rfl)) (pgs_cons (pg_name (i := 3) scStepTold.nd rfl (by first | exact .inl rfl | exact .inr rfl)) pgs_nil)))) (tg_tp (tgs_cons (tg_nm 1) (tgs_cons (tg_nm 2) (tgs_cons (tg_nm 3) tgs_nil)))))
      (pds_cons (pds_set (i := 4) scStepTold.nd (pd_split (pd_var 1) pd_str))
      (pds_cons (pds_if (pdt_w (pdw_or (pdt_cmp do_lt (pd_blt (do_len rfl) B.len (pda_cons (pd_var 4) pda_nil)) pd_int) (pdw_or1 (pdt_cmp (do_ne rfl hr.units) (pd_ix (do_ix rfl) (pd_var 4) pd_int) pd_str))))
      (pds_one (pds_ret pd_non)) pds_nil)
      (pds_cons (pds_if (pdt_w (pdw_or (pdt_not (pdt_val (pd_cal C_is_name (hr.mono (by decide)) (pda_cons (pd_ix (do_ix rfl) (pd_var 4) pd_int) pda_nil)))) (pdw_or1 (pdt_not (pdt_val (pd_blt (do_all rfl rfl) B.all (pda_cons (pd_fr (pf_lc (own := [("word", 7)]) (W' := fun _ _ _ _ => False) scStepTold.nd (pdi_seq rfl (pd_slice rfl (pd_var 4) (pdo_some pd_int) pdo_none)) (blkOk_by (N := nStepTold) (sc := defScope sStepTold) (by decide +kernel)) (fun _ _ _ _ _ => (pg_name (i := 7) scStepTold.nd rfl (by first | exact .inl rfl | exact .inr rfl))) (tg_nm 7) (fun _ _ _ _ _ => pdts_nil) (fun _ _ _ _ _ => (pd_cal C_is_name (hr.mono (by decide)) (pda_cons (pd_var 7) pda_nil))))) pda_nil)))))))
      (pds_one (pds_ret pd_non)) pds_nil)
      (pds_cons (pds_set (i := 5) scStepTold.nd (pd_ite (pdt_tru rfl (pd_var 2)) (pd_fr (pf_lc (own := [("part", 6)]) (W' := fun _ _ _ _ => False) scStepTold.nd (pdi_seq rfl (pd_split (pd_var 3) pd_str)) (blkOk_by (N := nStepTold) (sc := defScope sStepTold) (by decide +kernel)) (fun _ _ _ _ _ => (pg_name (i := 6) scStepTold.nd rfl (by first | exact .inl rfl | exact .inr rfl))) (tg_nm 6) (fun _ _ _ _ _ => pdts_nil) (fun _ _ _ _ _ => (pd_cal C_arrow_told (hr.mono (by decide)) (pda_cons (pd_var 6) pda_nil))))) (pd_lst pda_nil)))
      (pds_cons (pds_if (pdt_cmp (do_in rfl (u65 hr)) pd_non (pd_var 5))
      (pds_one (pds_ret pd_non)) pds_nil)
      (pds_one (pds_ret (pd_tup (pda_cons (pd_ix (do_ix rfl) (pd_var 4) pd_int) (pda_cons (pd_slice rfl (pd_var 4) (pdo_some pd_int) pdo_none) (pda_cons (pd_var 5) pda_nil)))))))))))), ?_⟩
  rintro ds P' R _ ⟨z, rfl, sm, p⟩
  dsimp only at p
  obtain ⟨l1, l2, l3⟩ := part_len z " go "
  refine ⟨⟨z, rfl⟩, z, " go ", rfl, rfl, by decide +kernel, big_le (by omega), _, rfl, rfl, ?_⟩
  refine ⟨rfl, ⟨_, rfl⟩, (Txt.partition z " go ").1, " ", rfl, rfl, by decide +kernel, big_le (by omega), ?_⟩
  have gl : (" go " : Str).length = 4 := by decide +kernel
  unfold stepB at p
  generalize Txt.partition z " go " = q at p l1 l2 l3 ⊢
  have hs : ∀ a ∈ Txt.split q.1 " ", a.length ≤ q.1.length := fun a h => part_short h
  have hn := split_le q.1 " "
  generalize Txt.split q.1 " " = ws at p hs hn ⊢
  refine ⟨_, rfl, trivial, _, rfl, ?_⟩
  match ws, p, hs, hn with
  | [], p, _, _ => exact iteT (iteT p)
  | [a], p, _, _ => exact iteT (iteT p)
  | [a, m], p, _, _ => exact iteT (iteT p)
  | a :: m :: b :: bs, p, hs, hn =>
    have ha := hs a (by simp)
    rw [decide_eq_false (by rw [List.length_map, List.length_cons, List.length_cons, List.length_cons]; omega)]
    refine iteF ⟨_, atI_nat (j := 1) rfl, .inl rfl, _, rfl, ?_⟩
    rw [eq_dec]
    have p : P' (optD rowD (if (decide (m = "at") && (nameB a && (b :: bs).all nameB)) = true then (arrsB q).map fun ar => (a, b :: bs, ar) else none)) := p
    by_cases hm : m = "at"
    · rw [decide_eq_true hm] at p ⊢
      rw [Bool.true_and] at p
      refine iteF ⟨_, atI_nat (j := 0) rfl, rfl, _, rfl, rfl, big_le (by omega), _, rfl, ?_⟩
      show if (!nameB a) = true then _ else _
      cases na : nameB a with
      | false =>
        rw [na] at p
        exact iteT (iteT p)
      | true =>
        rw [na, Bool.true_and] at p
        refine iteF ⟨_, rfl, _, rfl, _, rfl, ⟨trivial, trivial⟩, ?_⟩
        have e2 : ∀ l : List D, cutL l (some 2) none = l.drop 2 := fun l => cut_from l 2
        rw [e2]
        show cmpD _ _ _ _ _ (((b :: bs).map D.str)) [] _
        refine cmpD_map D.str (fun z => .bl (nameB z)) (by simp only [List.length_cons] at hn ⊢; omega) (fun d hd T hT => ?_) ?_
        · have := hs d (List.mem_cons_of_mem _ (List.mem_cons_of_mem _ hd))
          exact ⟨rfl, _, rfl, rfl, big_le (by omega), rfl, hT⟩
        · refine ⟨_, _, rfl, bls_fun _ _, _, rfl, ?_⟩
          have eb : ((b :: bs).map fun z => nameB z).all id = (b :: bs).all nameB := by rw [List.all_map]; rfl
          rw [eb]
          show if (!(b :: bs).all nameB) = true then _ else _
          cases nb : (b :: bs).all nameB with
          | false =>
            rw [nb] at p
            exact iteT p
          | true =>
            rw [nb] at p
            refine iteF ?_
            have p : P' (optD rowD ((arrsB q).map fun ar => (a, b :: bs, ar))) := p
            unfold arrsB at p
            refine ⟨_, rfl, fun s e => by cases e; exact big_le (by omega), ?_⟩
            have fin : ∀ ar : List (Option Tri), (∀ o ∈ ar, shN 3 (optD triD' o) = true) → ar.length ≤ 1000000 → P' (optD rowD ((allSome ar).map fun ar => (a, b :: bs, ar))) → ∃ b1, inB .non (.lst (ar.map (optD triD'))) = some b1 ∧ ∃ b2, D.bl b1 = .bl b2 ∧ if b2 = true then P' .non else P' (.tup [.str a, .lst ((b :: bs).map .str), .lst (ar.map (optD triD'))]) := fun ar har hz p => by
              refine ⟨_, (inB_sh (n := 3) rfl (fun x hx => ?_) (by rw [List.length_map]; exact hz)).1, _, rfl, ?_⟩
              · obtain ⟨o, ho, rfl⟩ := List.mem_map.mp hx
                exact har o ho
              · by_cases hno : none ∈ ar
                · rw [allSome_none hno] at p
                  have : ((ar.map (optD triD')).any fun y => dEq y .non) = true := List.any_eq_true.mpr ⟨.non, List.mem_map.mpr ⟨none, hno, rfl⟩, rfl⟩
                  rw [this]
                  exact iteT p
                · obtain ⟨r, er, el⟩ := allSome_some hno
                  rw [er] at p
                  have : ((ar.map (optD triD')).any fun y => dEq y .non) = false := List.any_eq_false.mpr fun y hy => by
                    obtain ⟨o, ho, rfl⟩ := List.mem_map.mp hy
                    cases o with
                    | none => exact absurd ho hno
                    | some t => exact fun z => nomatch z
                  rw [this]
                  refine iteF ?_
                  rw [el, List.map_map]
                  exact p
            by_cases h0 : q.2.1.length = 0
            · rw [if_pos h0] at p
              rw [h0]
              refine iteF ⟨by decide, ?_⟩
              obtain ⟨b1, e1, b2, e2', f⟩ := fin [] (fun o h => nomatch h) (by decide) p
              refine ⟨b1, e1, b2, e2', ?_⟩
              cases b2 with
              | true =>
                rw [if_pos rfl] at f
                refine iteT ?_
                exact f
              | false =>
                rw [if_neg (fun z => nomatch z)] at f
                refine iteF ⟨_, atI_nat (j := 0) rfl, _, rfl, _, rfl, (by show 3 ≤ sizeLine; decide), ?_⟩
                rw [e2]
                exact f
            · rw [if_neg h0] at p
              have ht : (q.2.1.length != 0) = true := by simpa using h0
              rw [ht]
              have hs3 : ∀ a ∈ Txt.split q.2.2 ", ", a.length ≤ q.2.2.length := fun a h => part_short h
              have hn3 := split_le q.2.2 ", "
              refine iteT ⟨⟨_, rfl⟩, q.2.2, ", ", rfl, rfl, by decide +kernel, big_le (by omega), _, rfl, ⟨trivial, trivial⟩, ?_⟩
              refine cmpD_map D.str (fun z => optD triD' (arrB z)) (by omega) (fun d hd T hT => ?_) ?_
              · have := hs3 d hd
                exact ⟨rfl, d, rfl, by omega, rfl, hT⟩
              · obtain ⟨b1, e1, b2, e2', f⟩ := fin ((Txt.split q.2.2 ", ").map arrB) (fun o ho => by
                  obtain ⟨y, _, rfl⟩ := List.mem_map.mp ho
                  exact sh_arr) (by rw [List.length_map]; omega) p
                rw [List.map_map] at e1 f
                refine ⟨b1, e1, b2, e2', ?_⟩
                cases b2 with
                | true =>
                  rw [if_pos rfl] at f
                  refine iteT ?_
                  exact f
                | false =>
                  rw [if_neg (fun z => nomatch z)] at f
                  refine iteF ⟨_, atI_nat (j := 0) rfl, _, rfl, _, rfl, (by show 3 ≤ sizeLine; decide), ?_⟩
                  rw [e2]
                  exact f
    · rw [decide_eq_false hm] at p ⊢
      exact iteT p
end
end Vf

set_option Elab.async false
set_option linter.all false
set_option maxRecDepth 100000
set_option maxHeartbeats 4000000
/-! sets of texts that can be put in order: what adding a text does, sorted -/
namespace Vf
open PySem PySem.Spec PyProof.Rows L2
def wordOf (e : Int × Value) : Str := strOf e.2
def IsWord (P : Program) (w : World) (e : Int × Value) : Prop := ∃ x t, e.2 = Value.str x t ∧ e.1 = (strKind P w).hash x
theorem IsWord.is {P : Program} {w : World} {e : Int × Value} (h : IsWord P w e) (k : Str) : (strKind P w).is k e.2 = true ↔ wordOf e = k := by
  obtain ⟨x, t, h1, _⟩ := h
  unfold wordOf
  rw [h1]
  simp [PySem.strKind, Value.isStrOf, strOf]
theorem words_elems {P : Program} {w : World} {l : List (Int × Value)} (g : ∀ e ∈ l, IsWord P w e) : ElemsOf (strKind P w) l := fun e he => by
  obtain ⟨x, t, h1, h2⟩ := g e he
  refine ⟨⟨x, ?_, h2⟩, ?_⟩
  · rw [h1]
    exact strKind_is P w x t
  · rw [h1]
    rfl
structure WAt (P : Program) (w : World) (h : Heap) (a : Addr) (zs : List Str) (o : Obj) (es : Array (Int × Value)) (ep : Nat) (t : SetTable) : Prop where
  at_ : h.get? a = some o
  ex : o.ExactSet
  dat : o.data = .set es ep t
  words : ∀ e ∈ es.toList, IsWord P w e
  perm : (es.toList.map wordOf).Perm zs
  nd : zs.Nodup
  few : zs.length < 64
  fits : t.fits es.size = true
  ris : Ris t.place.toList
  led : w.params.followText "set-order" = true ∨ t.led = true
section
variable {P : Program} {w : World} {h : Heap} {a : Addr} {zs : List Str} {o : Obj} {es : Array (Int × Value)} {ep : Nat} {t : SetTable}
theorem WAt.sz (R : WAt P w h a zs o es ep t) : es.size = zs.length := by
  have q := R.perm.length_eq
  rwa [List.length_map, Array.length_toList] at q
theorem WAt.small (R : WAt P w h a zs o es ep t) : es.size < scanBound := by
  have q : (64 : Nat) ≤ scanBound := by decide
  have := R.few
  rw [R.sz]
  omega
theorem WAt.mem (R : WAt P w h a zs o es ep t) (k : Str) : k ∈ zs ↔ ∃ e ∈ es.toList, (strKind P w).is k e.2 = true := by
  rw [← R.perm.mem_iff, List.mem_map]
  refine ⟨fun ⟨e, he, q⟩ => ⟨e, he, ((R.words e he).is k).mpr q⟩, fun ⟨e, he, q⟩ => ⟨e, he, ((R.words e he).is k).mp q⟩⟩
end
/-- the set of these texts at a -/
def WS (P : Program) (w : World) (a : Addr) (zs : List Str) : HO := .ext fun h => ∃ o es ep t, WAt P w h a zs o es ep t
theorem ws_ok {P : Program} {w : World} {H : Hp} {h : Heap} {a : Addr} {zs : List Str} (R : ∃ o es ep t, WAt P w h a zs o es ep t) : ObjOk P w H h a (WS P w a zs) := by
  have ⟨o, es, ep, t, r⟩ := R
  refine ⟨R, ⟨o, r.at_⟩, fun h1 h2 ⟨o', es', ep', t', r'⟩ k => ?_⟩
  exact ⟨o', es', ep', t', k o' r'.at_, r'.ex, r'.dat, r'.words, r'.perm, r'.nd, r'.few, r'.fits, r'.ris, r'.led⟩
theorem ws_new {P : Program} {w : World} {h : Heap} {a : Addr} (ho : h.get? a = some { cls := .type "set", dict := none, data := .set #[] 0 (.fresh 0 0 (!w.params.followText "set-order")) }) : ∃ o es ep t, WAt P w h a [] o es ep t := by
  refine ⟨_, #[], 0, _, ho, ⟨rfl, rfl, rfl⟩, rfl, fun e he => (nomatch he), .refl _, List.nodup_nil, by decide, by rfl, List.Pairwise.nil, ?_⟩
  show _ ∨ (!w.params.followText "set-order") = true
  cases w.params.followText "set-order"
  · exact .inr rfl
  · exact .inl rfl
section
variable {P : Program} {w : World} {A : Around} {E : Value → Shared → Prop} {s : Shared} {a : Addr} {zs : List Str}
/-- the new entries stored, the table laid anew if it is too full -/
theorem ws_store {o : Obj} {es es1 : Array (Int × Value)} {ep : Nat} {t t1 : SetTable} {zs1 : List Str} {dum : Bool} {say : Bool → Sem Unit} {R : Option Bool → Shared → Prop} (at_ : s.heap.get? a = some o) (ex : o.ExactSet) (dat : o.data = .set es ep t)
    (say_ok : ∀ (b : Bool) (z : Shared) (Q : Unit → Shared → Prop), Q () z → wpAny (model P w) A (say b) Q E z) (words : ∀ e ∈ es1.toList, IsWord P w e) (perm : (es1.toList.map wordOf).Perm zs1) (nd : zs1.Nodup) (few : zs1.length < 64)
    (fits : t1.fits es1.size = true) (ris : Ris t1.place.toList) (led : w.params.followText "set-order" = true ∨ t1.led = true) (done : ∀ h', Heap.SameBut a s.heap h' → (∃ o es ep t, WAt P w h' a zs1 o es ep t) → R (some true) { s with heap := h' }) :
    wpAny (model P w) A (do
      storeSet a es1 t1
      if (!dum && t1.tooFull) = true then do
          say (relayAll t1 es1 (SetTable.grown es1.size)).2.2
          storeSet a (relayAll t1 es1 (SetTable.grown es1.size)).1 (relayAll t1 es1 (SetTable.grown es1.size)).2.1
          pure (some true)
        else pure (some true)) R E s := by
  have z1 : es1.size = zs1.length := by
    have q := perm.length_eq
    rwa [List.length_map, Array.length_toList] at q
  have q64 : (64 : Nat) ≤ scanBound := by decide
  have b1 : es1.size < scanBound := by omega
  refine wpAny_bind (wpAny_storeSet_of at_ dat ?_ (fits_of_scanBound b1))
  have at1 := L2.store_at (es' := es1) (t' := t1) at_ dat
  have sb := Heap.SameBut.update s.heap a (Obj.putSet es1 t1)
  split
  · have p2 := relayAll_perm t1 es1 (SetTable.grown es1.size)
    have f2 := relayAll_fits t1 es1 (SetTable.grown es1.size)
    have r2 := relayAll_ris t1 es1 (SetTable.grown es1.size)
    have l2 := relayAll_led t1 es1 (SetTable.grown es1.size)
    generalize relayAll t1 es1 (SetTable.grown es1.size) = Y at p2 f2 r2 l2 ⊢
    obtain ⟨es2, t2, gave⟩ := Y
    dsimp only at p2 f2 r2 l2 ⊢
    have z2 : es2.size = es1.size := by
      have q := p2.length_eq
      rwa [Array.length_toList, Array.length_toList] at q
    refine wpAny_bind (say_ok _ _ _ ?_)
    refine wpAny_bind (wpAny_storeSet_of at1 rfl ?_ (fits_of_scanBound (by rw [z2]; exact b1)))
    refine wpAny_pure (done _ (sb.trans (Heap.SameBut.update _ a _)) ⟨_, es2, _, t2, L2.store_at (es' := es2) (t' := t2) at1 rfl, ex, rfl, fun e he => words e (p2.mem_iff.mp he), (p2.map wordOf).trans perm, nd, few, f2, r2, ?_⟩)
    rw [l2]
    exact led
  · exact wpAny_pure (done _ sb ⟨_, es1, _, t1, at1, ex, rfl, words, perm, nd, few, fits, ris, led⟩)
theorem ws_hashed {o : Obj} {es : Array (Int × Value)} {ep : Nat} {t : SetTable} {k : Str} {tk : Tok} {Q : Bool → Shared → Prop} (R : WAt P w s.heap a zs o es ep t) (room : zs.length + 1 < 64)
    (done : ∀ b h', Heap.SameBut a s.heap h' → (∃ o es ep t, WAt P w h' a (if k ∈ zs then zs else k :: zs) o es ep t) → Q b { s with heap := h' }) :
    wpAny (model P w) A (setAddHashed a (.str k tk) ((strKind P w).hash k)) Q E s := by
  have isk : (strKind P w).is k (.str k tk) = true := strKind_is P w k tk
  have scn : (Value.str k tk).scannable = true := rfl
  have els := words_elems R.words
  unfold setAddHashed setAddHashedIn
  refine wpAny_holding (wpAny_bind (wpAny_setState_of R.at_ R.dat R.fits ?_))
  dsimp only
  rw [byScan_of scn R.small els]
  simp only [↓reduceIte]
  unfold setAddByScan
  refine wpAny_bind (wpAny_bind (wpAny_rule ?_))
  refine wpAny_bind (wpAny_setScan_of isk R.at_ R.dat R.fits els ?_)
  cases fi : List.findIdx? (fun e => (strKind P w).is k e.2) es.toList with
  | some j =>
    dsimp only
    obtain ⟨hj, pj, _⟩ := List.findIdx?_eq_some_iff_getElem.mp fi
    have mk : k ∈ zs := (R.mem k).mpr ⟨es.toList[j], List.getElem_mem hj, pj⟩
    refine wpAny_pure (wpAny_pure (done _ s.heap (Heap.SameBut.refl a s.heap) ?_))
    rw [if_pos mk]
    exact ⟨o, es, ep, t, R⟩
  | none =>
    dsimp only
    have nk : k ∉ zs := fun z => by
      obtain ⟨e, he, q⟩ := (R.mem k).mp z
      have := List.findIdx?_eq_none_iff.mp fi e he
      rw [q] at this
      cases this
    rw [if_neg nk] at done
    have p1 := layNew_perm t es ((strKind P w).hash k) (.str k tk)
    have f1 := layNew_fits t es ((strKind P w).hash k) (.str k tk)
    have r1 := layNew_ris t es ((strKind P w).hash k) (.str k tk) R.ris
    have l1 := layNew_led t es ((strKind P w).hash k) (.str k tk)
    generalize layNew t es ((strKind P w).hash k) (.str k tk) = Y at p1 f1 r1 l1 ⊢
    obtain ⟨es1, t1, dum, gave⟩ := Y
    dsimp only at p1 f1 r1 l1 ⊢
    rw [Array.toList_push] at p1
    have p2 : es1.toList.Perm (((strKind P w).hash k, Value.str k tk) :: es.toList) := p1.trans (List.perm_append_singleton _ _)
    have words : ∀ e ∈ es1.toList, IsWord P w e := fun e he => (List.mem_cons.mp (p2.mem_iff.mp he)).elim (fun z => ⟨k, tk, by rw [z], by rw [z]⟩) (R.words e)
    have perm : (es1.toList.map wordOf).Perm (k :: zs) := (p2.map wordOf).trans (List.Perm.cons k R.perm)
    have nd : (k :: zs).Nodup := List.nodup_cons.mpr ⟨nk, R.nd⟩
    have led : w.params.followText "set-order" = true ∨ t1.led = true := by
      rw [l1]
      exact R.led
    have quiet : ∀ (b : Bool) {z : Shared} {Q' : Unit → Shared → Prop}, Q' () z → wpAny (model P w) A (match b with | true => rule "set.scan.the-table-gave-way" | false => pure ()) Q' E z := fun b z Q' q => by
      cases b
      · first | exact wpAny_pure q | exact wpAny_rule q
      · first | exact wpAny_rule q | exact wpAny_pure q
    refine wpAny_bind (quiet _ ?_)
    split
    · refine wpAny_bind ?_
      rw [hashByValue_scannable 8 scn]
      refine wpAny_pure ?_
      refine ws_store R.at_ R.ex R.dat ?_ words perm nd room ?_ ?_ ?_ ?_
      · intro b z Q' q
        cases b <;> first | exact wpAny_pure q | exact wpAny_rule q
      · first | (split <;> first | exact f1 | exact SetTable.fits_plain_off f1) | exact f1
      · first | (split <;> exact r1) | exact r1
      · first | (split <;> exact led) | exact led
      · exact fun h' sb r => wpAny_pure (done _ h' sb r)
    · refine wpAny_bind (wpAny_pure ?_)
      simp only [↓reduceIte]
      refine ws_store R.at_ R.ex R.dat ?_ words perm nd room f1 r1 led ?_
      · intro b z Q' q
        cases b <;> first | exact wpAny_pure q | exact wpAny_rule q
      · exact fun h' sb r => wpAny_pure (done _ h' sb r)
/-- S.add(k) -/
theorem ws_add {k : Str} {tk : Tok} {Q : Value → Shared → Prop} (R : ∃ o es ep t, WAt P w s.heap a zs o es ep t) (room : zs.length + 1 < 64)
    (done : ∀ h' t', Heap.SameBut a s.heap h' → (∃ o es ep t, WAt P w h' a (if k ∈ zs then zs else k :: zs) o es ep t) → Q .none { s with heap := h', toks := t' }) :
    wpAny (model P w) A (call (.builtin "set.add") [.ref a, .str k tk]) Q E s := by
  obtain ⟨o, es, ep, t, R⟩ := R
  have so : s.heap.SetOf (strKind P w) a (fun x => decide (x ∈ zs)) es.size := ⟨o, es, ep, t, R.at_, R.ex, R.dat, words_elems R.words, fun x => by rw [decide_eq_true_eq]; exact R.mem x, R.small, R.fits, rfl⟩
  refine wpAny_call_entry PySem.F.slot_set_add so.typeIs PySem.F.entry_set_add ?_ (PySem.F.args_set_add_2 _ _)
  unfold Builtin.«set.add» Builtin.Frozenset.oneOther
  simp only [List.isEmpty_nil, bind_assoc]
  unfold Builtin.Frozenset.addrOf setAdd
  refine wpAny_bind (wpAny_pure ?_)
  try dsimp only
  refine wpAny_bind (wpAny_pure ?_)
  try dsimp only
  refine wpAny_bind (wpAny_holding (wpAny_bind ((strKind P w).pyHash (strKind_is P w k tk) ?_)))
  refine ws_hashed (s := { s with toks := s.toks + 1 }) R room fun b h' sb r => ?_
  exact wpAny_pure ⟨_, rfl, done h' (s.toks + 1) sb r⟩
end
def putWs (P : Program) (w : World) : Hp → Addr → V → (Hp → Prop) → Prop := fun H D y Nx => ∃ (k : Str) (zs : List Str), y = .str k ∧ H D = some (WS P w D zs) ∧ zs.length + 1 < 64 ∧ Nx (upd H D (WS P w D (if k ∈ zs then zs else k :: zs)))
section
variable {X : Cx}
theorem law_ws : SetLaw X (fun D => WS X.prog X.w D []) (putWs X.prog X.w) where
  new := fun ho => ws_ok (ws_new ho)
  add := fun Y e1 e2 e3 e4 {pins σ H s D y v Nx E Q} I r p h => by
    obtain ⟨k, zs, rfl, hD, room, nx⟩ := p
    obtain ⟨tk, rfl⟩ := r
    rw [← e1, ← e2] at hD nx
    have R : ∃ o es ep t, WAt Y.prog Y.w s.heap D zs o es ep t := (I.hok D _ hD).1
    refine ws_add R room fun h' t' sb new => ?_
    have he : ∃ u, h'.get? D = some u := by
      obtain ⟨o, _, _, _, r⟩ := new
      exact ⟨o, r.at_⟩
    exact h _ _ (I.write (e := D) (t' := t') (by rw [hD]; trivial) (.inl rfl) (fun b u hb hu => (sb.2 b hb).trans hu) he (ws_ok new)) nx
/-- sorted of such a set -/
def rSortWs (P : Program) (w : World) : List V → Hp → VK → Prop := fun vs H Q => ∃ (a : Addr) (zs : List Str), vs = [V.ref a] ∧ H a = some (WS P w a zs) ∧ ∀ (ys : List Str) (p : Addr), ys.Perm zs → Asc ltS ys → H p = none → Q (.ref p) (upd H p (.lst (ys.map V.str)))
theorem cr_sortWs (hc : X.calm = true) : CallR X (.builtin "sorted") (rSortWs X.prog X.w) := by
  intro pins s σ H vs us Q I r h
  obtain ⟨a, zs, rfl, ha, q⟩ := h
  rw [Vals.ref1 r]
  obtain ⟨o, es, ep, t, R⟩ : ∃ o es ep t, WAt X.prog X.w s.heap a zs o es ep t := (I.hok a _ ha).1
  refine Calls.call_function_entry kind_sorted plain_sorted entry_sorted (args_sorted1 _) ?_
  unfold Builtin.«sorted»
  refine wpAny_bind (m := checkCount "sorted" 1 1 _) (wpAny_pure ?_)
  refine wpAny_bind (collect_set (A := X.A.in1) (I.ok.hd hc) ⟨o, R.at_, R.ex.1, R.dat⟩ R.fits R.small R.ris R.led fun s1 vs k1 hz g1 o1 pm => ?_)
  have words : ∀ v ∈ vs, ∃ x t, v = Value.str x t := fun v hv => by
    obtain ⟨e, he, rfl⟩ := List.mem_map.mp (pm.mem_iff.mp hv)
    obtain ⟨x, t, h1, _⟩ := R.words e he
    exact ⟨x, t, h1⟩
  have pz : (vs.map strOf).Perm zs := by
    have q := pm.map strOf
    rw [List.map_map] at q
    exact q.trans R.perm
  have lz : vs.length = zs.length := by
    have q := pz.length_eq
    rwa [List.length_map] at q
  have few := R.few
  have sl : vs.length ≤ sizeLine := Nat.le_of_lt (small100 (by omega))
  refine wpAny_bind (wpAny_newList ?_ sl)
  have at_ : (s1.heap.push (seqObj "list" vs.toArray 0)).get? s1.heap.objs.size = some (seqObj "list" vs.toArray 0) := Heap.get?_push_size _ rfl
  have hS : StrsAre vs (vs.map strOf) := (strs_back words).strs
  refine wpAny_bind (wpAny_holding (wpAny_call_entry slot_list_sort ⟨_, at_, rfl⟩ entry_list_sort (SrtO.list_sort_ord (lin_str.swo strOf) at_ sl (fun h2 => strs_sortableO hS h2) fun out hs hb => ⟨_, rfl, ?_⟩) (args_list_sort _)))
  have h3 : ∀ u ∈ out, ∃ x t, u = Value.str x t := fun u hu => words u (hb.perm.mem_iff.mp hu)
  obtain ⟨c, hcn⟩ := sortedHeap_at (out := out.toArray) at_
  have keep : ∀ b u, s.heap.get? b = some u → (sortedHeap (s1.heap.push (seqObj "list" vs.toArray 0)) s1.heap.objs.size vs out.toArray).get? b = some u := fun b u e => by
    have e1 := k1 b u e
    have lt := Heap.lt_size e1
    rw [sortedHeap_old (Nat.ne_of_lt lt) (by rw [size_push']; exact Nat.lt_succ_of_lt lt)]
    exact Heap.get?_push_of_some _ e1
  have hn : H s1.heap.objs.size = none := I.hok.fresh hz
  have hp : (out.map strOf).Perm zs := (hb.perm.map strOf).trans pz
  have ln : ((out.map strOf).map V.str).length ≤ sizeLine := by
    rw [List.length_map, hp.length_eq, ← lz]
    exact sl
  obtain ⟨hp1, g1', d1', tk1, os1⟩ := s1
  obtain rfl : os1 = s.os := o1
  obtain rfl : g1' = s.gens := g1
  have J : Inv X pins σ (upd H hp1.objs.size (.lst ((out.map strOf).map V.str))) ⟨sortedHeap (hp1.push (seqObj "list" vs.toArray 0)) hp1.objs.size vs out.toArray, s.gens, d1', tk1, s.os⟩ :=
    I.call (ch := []) (Un.laid keep hz hn) (I.hok.laid keep hz ⟨ln, out, c, strs_back h3, hcn⟩) I.bare (fun _ z => nomatch z)
  exact wpAny_pure ⟨_, rfl, .ref hp1.objs.size, _, J, rfl, q _ _ hp (List.pairwise_map.mpr hs) hn⟩
end
end Vf

set_option Elab.async false
set_option linter.all false
set_option maxRecDepth 100000
set_option maxHeartbeats 1000000
/-! the data layer: set comprehensions, of texts and of tuples of plain keys -/
namespace Vf
open PySem PySem.Spec PyProof.Rows L2
/-- how many are unlike -/
def UnlG {α : Type} (xs : List α) (n : Nat) : Prop := n ≤ xs.length ∧ (n = xs.length ↔ xs.Nodup)
theorem unlG_nil {α : Type} : UnlG ([] : List α) 0 := ⟨Nat.le_refl _, ⟨fun _ => List.nodup_nil, fun _ => rfl⟩⟩
theorem unlG_old {α : Type} {xs : List α} {n : Nat} {x : α} (u : UnlG xs n) (h : x ∈ xs) : UnlG (xs ++ [x]) n := by
  have hl : (xs ++ [x]).length = xs.length + 1 := List.length_append
  refine ⟨by rw [hl]; exact Nat.le_succ_of_le u.1, fun e => ?_, fun e => absurd h (nodup_snoc.mp e).2⟩
  have := u.1
  omega
theorem unlG_new {α : Type} {xs : List α} {n : Nat} {x : α} (u : UnlG xs n) (h : x ∉ xs) : UnlG (xs ++ [x]) (n + 1) := by
  have hl : (xs ++ [x]).length = xs.length + 1 := List.length_append
  refine ⟨by rw [hl]; exact Nat.succ_le_succ u.1, fun e => nodup_snoc.mpr ⟨u.2.mp (by omega), h⟩, fun e => ?_⟩
  rw [hl, u.2.mpr (nodup_snoc.mp e).1]
theorem cr_lenWs {X : Cx} : CallR X (.builtin "len") (fun vs H Q => ∃ (a : Addr) (zs : List Str), vs = [V.ref a] ∧ H a = some (WS X.prog X.w a zs) ∧ Q (.int zs.length) H) := by
  intro pins s σ H vs us Q I r h
  obtain ⟨a, zs, rfl, ha, q⟩ := h
  rw [Vals.ref1 r]
  obtain ⟨o, es, ep, t, R⟩ : ∃ o es ep t, WAt X.prog X.w s.heap a zs o es ep t := (I.hok a _ ha).1
  have hb : scanBound = 4096 := rfl
  have := R.small
  exact call_len_set R.at_ R.ex R.dat R.fits (by omega) ⟨.int zs.length, H, I.tok _, ⟨_, by rw [R.sz]⟩, q⟩

/-! ### a thing apart that no slot holds -/
def cD (c : Ct) (D : Addr) (o : HO) : Ct := ⟨upd c.H0 D o, c.G0, c.hid⟩
section
variable {K : PySem.W.Frag} {c : Ct} {σ : L2.St} {H G : Hp} {ρ : Ev} {D : Addr} {o o' : HO}
theorem Rep.inD (r : Rep K c σ H G ρ) (n : H D = none) : Rep K (cD c D o) σ (upd H D o) G ρ := by
  have r' := r.ext (Ext.tmp (H' := upd H D o) r.gh (same_new n))
  have gD : G D = none := r.gh.free n
  obtain ⟨fp, s1, s2, s3⟩ := r'.sl
  obtain ⟨fp0, t1, t2, t3⟩ := r.sl
  refine ⟨r'.len, r'.gh, r'.g0, fun a u h e => ?_, r'.hk, fun a h => ?_, fun a h => ?_, fp0, fun i s hi => ?_, fun i a hi ha => ?_, t3⟩
  · by_cases z : a = D
    · subst z
      rw [show (cD c a o).H0 a = some o from upd_same] at e
      cases e
      exact upd_same
    · rw [show (cD c D o).H0 a = c.H0 a from upd_ne z] at e
      exact r'.fr a u h e
  · rcases r.nw a h with z | z
    · exact .inl z
    · by_cases y : a = D
      · subst y
        exact absurd gD h
      · exact .inr (by rw [show (cD c D o).H0 a = c.H0 a from upd_ne y]; exact z)
  · by_cases y : a = D
    · subst y
      rw [upd_same] at h
      cases h
    · rw [show (cD c D o).H0 a = c.H0 a from upd_ne y]
      rw [upd_ne y] at h
      exact r.h0 a h
  · have hx := t1 i s hi
    refine hx.mono (fun a ha => ?_) (Same.refl _)
    have := hx.there a ha
    exact upd_ne fun z => this (z ▸ n)
  · obtain ⟨h1, h2⟩ := t2 i a hi ha
    refine ⟨h1, h2.imp (fun z => ?_) id⟩
    have := (t1 i _ (List.getElem?_eq_getElem hi)).there a ha
    have y : a ≠ D := fun y => this (y ▸ n)
    rw [show (cD c D o).H0 a = c.H0 a from upd_ne y]
    exact z
/-- what is known of D -/
structure OutD (c : Ct) (D : Addr) : Prop where
  h : c.H0 D = none
  n : ¬ c.hid D
  g : c.G0 D = none
theorem Rep.outD_of (r : Rep K c σ H G ρ) (n : H D = none) : OutD c D := ⟨r.h0 D n, fun z => r.hk D z n, r.g0.free (r.gh.free n)⟩
theorem Rep.atD (r : Rep K (cD c D o) σ H G ρ) (q : OutD c D) : H D = some o ∧ G D = none ∧ ∀ fp : Nat → List Addr, (∀ i a, i < ρ.length → a ∈ fp i → G a = none ∧ ((cD c D o).H0 a = none ∨ ((cD c D o).hid a ∧ ∃ p q, ρ[i]? = some (.deal p q)))) → ∀ i, i < ρ.length → D ∉ fp i := by
  have e : (cD c D o).H0 D = some o := upd_same
  refine ⟨r.fr D o q.n e, ?_, fun fp h i hi hm => ?_⟩
  · cases z : G D with
    | none => rfl
    | some u =>
      rcases r.nw D (by rw [z]; exact fun y => nomatch y) with y | y
      · exact absurd q.g y
      · rw [e] at y
        cases y
  · rcases (h i D hi hm).2 with y | y
    · rw [e] at y
      cases y
    · exact q.n y.1
theorem Rep.setD (r : Rep K (cD c D o) σ H G ρ) (q : OutD c D) : Rep K (cD c D o') σ (upd H D o') G ρ := by
  obtain ⟨hD, gD, off⟩ := r.atD q
  obtain ⟨fp, s1, s2, s3⟩ := r.sl
  have e0 : ∀ a, a ≠ D → (cD c D o').H0 a = (cD c D o).H0 a := fun a n => by
    show upd c.H0 D o' a = upd c.H0 D o a
    rw [upd_ne n, upd_ne n]
  refine ⟨r.len, fun a u e => ?_, r.g0, fun a u h e => ?_, fun a h => ?_, fun a h => ?_, fun a h => ?_, fp, fun i s hi => ?_, fun i a hi ha => ?_, s3⟩
  · have n : a ≠ D := fun z => by rw [z, gD] at e; cases e
    rw [upd_ne n]
    exact r.gh a u e
  · by_cases z : a = D
    · subst z
      rw [show (cD c a o').H0 a = some o' from upd_same] at e
      cases e
      exact upd_same
    · rw [e0 a z] at e
      rw [upd_ne z]
      exact r.fr a u h e
  · have n : a ≠ D := fun z => q.n (z ▸ h)
    rw [upd_ne n]
    exact r.hk a h
  · have n : a ≠ D := fun z => h (z ▸ gD)
    rw [e0 a n]
    exact r.nw a h
  · by_cases z : a = D
    · subst z
      rw [upd_same] at h
      cases h
    · rw [upd_ne z] at h
      rw [e0 a z]
      exact r.h0 a h
  · have hi' := lt_of_at hi
    exact (s1 i s hi).mono (fun a ha => upd_ne fun z => off fp s2 i hi' (z ▸ ha)) (Same.refl _)
  · have n : a ≠ D := fun z => off fp s2 i hi (z ▸ ha)
    rw [e0 a n]
    exact s2 i a hi ha
theorem Rep.outD (r : Rep K (cD c D o) σ H G ρ) (q : OutD c D) : Rep K c σ H G ρ := by
  obtain ⟨hD, gD, off⟩ := r.atD q
  obtain ⟨fp, s1, s2, s3⟩ := r.sl
  have e0 : ∀ a, a ≠ D → (cD c D o).H0 a = c.H0 a := fun a n => upd_ne n
  refine ⟨r.len, r.gh, r.g0, fun a u h e => ?_, r.hk, fun a h => ?_, fun a h => ?_, fp, s1, fun i a hi ha => ?_, s3⟩
  · have n : a ≠ D := fun z => by rw [z, q.h] at e; cases e
    exact r.fr a u h (by rw [e0 a n]; exact e)
  · have n : a ≠ D := fun z => h (z ▸ gD)
    rw [← e0 a n]
    exact r.nw a h
  · have n : a ≠ D := fun z => by rw [z, hD] at h; cases h
    rw [← e0 a n]
    exact r.h0 a h
  · have n : a ≠ D := fun z => off fp s2 i hi (z ▸ ha)
    rw [← e0 a n]
    exact s2 i a hi ha
end
/-! ### kinds of sets -/
structure SKd (X : Cx) (K : PySem.W.Frag) where
  ini : Addr → HO
  put : Hp → Addr → V → (Hp → Prop) → Prop
  obj : Hp → Addr → HO → List D → Prop
  ok : List D → D → Prop
  law : SetLaw X ini put
  obj0 : ∀ {G : Hp} {b : Addr}, obj G b (ini b) []
  mono : ∀ {G G' : Hp} {b : Addr} {o : HO} {acc : List D}, Same G G' → obj G b o acc → obj G' b o acc
  adds : ∀ {G H : Hp} {b : Addr} {o : HO} {acc : List D} {v : V} {d : D} {Nx : Hp → Prop}, obj G b o acc → Rp K G v d → ok acc d → Same G H → H b = some o → (∀ o', obj G b o' (acc ++ [d]) → Nx (upd H b o')) → put H b v Nx
def cmpZ (ok : List D → D → Prop) (Fg : DG) (Fe : DE) (vs : List Nat) (ρ : Ev) : List D → List D → (List D → Prop) → Prop
  | [], acc, Q => Q acc
  | d :: ds, acc, Q => Fg d (wipeE ρ vs) fun ρ1 => Fe ρ1 (fun x ρ3 => ρ3 = ρ1 ∧ ok acc x ∧ cmpZ ok Fg Fe vs ρ ds (acc ++ [x]) Q) noR
def compZ (ok : List D → D → Prop) (Fi : DI) (Fg : DG) (Fe : DE) (vs : List Nat) : DA := fun ρ P R => Fi ρ (fun l ρ1 => okVs ρ1 vs ∧ cmpZ ok Fg Fe vs ρ1 l [] fun acc => P acc ρ1) R
section
variable {X : Cx} {K : PySem.W.Frag} {W : WX}
/-- a set that is new, in no slot -/
def LZ (S : SKd X K) (W : WX) (F : DA) : TE := fun σ H Q => ∃ c G ρ P R, Rep K c σ H G ρ ∧ F ρ P R ∧ (∀ acc ρ' b o H' G', P acc ρ' → S.obj G' b o acc → H' b = some o → Rep K c σ H' G' ρ' → Same G G' → Q (.ref b) H') ∧ LX K W c σ G R
theorem LZ.comp (S : SKd X K) {Fi : DI} {Fg : DG} {Fe : DE} {vs : List Nat} {t : TG} {σ : L2.St} {H : Hp} {Q : VK} {W' : WX} (ht : TgOk K t Fg vs) (h : LZ S W (compZ S.ok Fi Fg Fe vs) σ H Q) : tSetC S.ini S.put (LI K W Fi) t (LT K W' yesT) (LE K W' Fe) vs σ H Q := by
  obtain ⟨c, G, ρ, P, R, r, f, k, kx⟩ := h
  refine ⟨c, G, ρ, _, R, r, f, fun l ρ1 J H1 G1 f1 r1 s1 w1 A hA => ?_, kx⟩
  obtain ⟨ok, f1⟩ := f1
  have oD := r1.outD_of hA
  refine ⟨fun i m H' => ∃ G' acc o, m = l.length - i ∧ i ≤ l.length ∧ cmpZ S.ok Fg Fe vs ρ1 (l.drop i) acc (fun acc => P acc ρ1) ∧ Rep K (cD c A o) σ H' G' ρ1 ∧ S.obj G' A o acc ∧ Same G1 G', ⟨_, G1, [], S.ini A, rfl, Nat.zero_le _, f1, r1.inD hA, S.obj0, Same.refl _⟩, ?_⟩
  rintro i m H' ⟨G', acc, o, rfl, hi, f', r', ob, s'⟩
  obtain ⟨w2, w3⟩ := w1 i H' G' s' r'.gh
  by_cases hl : i < l.length
  · obtain ⟨hgo, hy⟩ := w2 l[i] (List.getElem?_eq_getElem hl)
    rw [List.drop_eq_getElem_cons hl] at f'
    refine .inr ⟨hgo, fun H'' => ∃ G'' acc'' o'', cmpZ S.ok Fg Fe vs ρ1 (l.drop (i + 1)) acc'' (fun acc => P acc ρ1) ∧ Rep K (cD c A o'') σ H'' G'' ρ1 ∧ S.obj G'' A o'' acc'' ∧ Same G1 G'', fun H'' ⟨G'', acc'', o'', f'', r'', ob'', s''⟩ => ⟨l.length - (i + 1), by omega, G'', acc'', o'', rfl, hl, f'', r'', ob'', s''⟩, fun x H2 hx => ?_⟩
    obtain ⟨G2, ex, rp⟩ := hy x H2 hx
    have ra := r'.ext ex
    have sG2 := s'.trans ex.g
    refine ht.ok (cD c A o) (wipe σ vs) H2 G2 (wipeE ρ1 vs) x _ _ _ (ra.wiped vs) rp f' fun ρ3 σ3 f3 r3 l3 m3 => ⟨?_, ?_⟩
    · rw [l3.wipe]
      exact (like_wipe vs σ).wipe
    refine ⟨cD c A o, G2, ρ3, fun b ρ4 => b = true ∧ ρ4 = ρ3, noR, r3, ⟨rfl, rfl⟩, fun b ρ4 H4 G4 f4 r4 s4 => ?_, LX.no⟩
    obtain ⟨rfl, rfl⟩ := f4
    rw [if_pos rfl]
    have lk : Like vs σ σ3 := (like_wipe vs σ).trans l3
    have mk : Like vs ρ1 ρ4 := (like_wipeE vs ρ1).trans m3
    refine ⟨cD c A o, G4, ρ4, _, noR, r4, f3, fun y ρ5 v H5 G5 f5 r5 s5 q5 => ?_, LX.no⟩
    obtain ⟨rfl, hz, f5⟩ := f5
    have s45 := s4.trans s5
    have rr := ra.unwipe r5 lk mk ok s45
    obtain ⟨hD, gD, _⟩ := rr.atD oD
    refine S.adds (S.mono (ex.g.trans s45) ob) q5 hz rr.gh hD fun o' ob' => ?_
    exact ⟨G5, acc ++ [y], o', f5, rr.setD oD, ob', sG2.trans s45⟩
  · rw [List.drop_eq_nil_of_le (by omega)] at f'
    exact .inl ⟨w3 (by omega), k _ _ _ _ _ _ f' ob (r'.atD oD).1 (r'.outD oD) (s1.trans s')⟩
abbrev PZ (S : SKd X K) (W : WX) (e : Expr) (F : DA) : Prop := PE X e (LZ S W F)
theorem pz_setC (S : SKd X K) {elt tg iter : Expr} {scope : Scope} {own : List (Str × Nat)} {pos : Pos} {Fi : DI} {t : TG} {Fg : DG} {Fe : DE} {W' : WX} (hN : X.N.Nodup) (hi : PDI K W X tg iter Fi) (ok : BlkOk X.N X.env.scope scope own)
    (hg : ∀ (s : Shared) (H : Hp) (C : Addr) (cl : List (Str × Addr)) (fp : List Addr), PG (X.blk s H scope (compEnvC scope cl C X.env) fp) tg t) (ht : TgOk K t Fg (own.map (·.2)))
    (he : ∀ (s : Shared) (H : Hp) (C : Addr) (cl : List (Str × Addr)) (fp : List Addr), PD K W' (X.blk s H scope (compEnvC scope cl C X.env) fp) elt Fe) (hc : X.calm = true := by rfl) (hs : ∀ x, foldedSetIterable iter X.env x = pure x := by intro _; rfl) :
    PZ S W (.SetComp elt [⟨tg, iter, [], 0⟩] scope pos) (compZ S.ok Fi Fg Fe (own.map (·.2))) :=
  PE.imp (pe_setC (tt := LT K W' yesT) S.law hc hN hi ok hg (fun _ _ _ _ _ => pdts_nil) he hs) fun _ _ _ h => LZ.comp S ht h
end
/-! ### texts -/
section
variable {X : Cx} {K : PySem.W.Frag} {W : WX}
def objWs (X : Cx) : Hp → Addr → HO → List D → Prop := fun _ b o acc => ∃ zs ts, strL acc = some ts ∧ o = WS X.prog X.w b zs ∧ zs.Nodup ∧ UnlG ts zs.length ∧ ∀ z, z ∈ zs ↔ z ∈ ts
theorem strL_len : ∀ {acc : List D} {ts : List Str}, strL acc = some ts → ts.length = acc.length
  | [], _, h => by cases h; rfl
  | d :: acc, ts, h => by
    cases d with
    | str y =>
      cases e : strL acc with
      | none => unfold strL at h; rw [e] at h; cases h
      | some us =>
        unfold strL at h
        rw [e] at h
        cases h
        exact congrArg (· + 1) (strL_len e)
    | _ => cases h
theorem strL_snoc {acc : List D} {ts : List Str} {z : Str} (h : strL acc = some ts) : strL (acc ++ [.str z]) = some (ts ++ [z]) := by
  induction acc generalizing ts with
  | nil => cases h; rfl
  | cons d acc ih =>
    cases d with
    | str y =>
      cases e : strL acc with
      | none => unfold strL at h; rw [e] at h; cases h
      | some us =>
        unfold strL at h
        rw [e] at h
        cases h
        show strL (.str y :: (acc ++ [.str z])) = _
        unfold strL
        rw [ih e]
        rfl
    | _ => cases h
def setWs (X : Cx) (K : PySem.W.Frag) : SKd X K where
  ini := fun b => WS X.prog X.w b []
  put := putWs X.prog X.w
  obj := objWs X
  ok := fun acc d => (∃ z, d = .str z) ∧ acc.length + 1 < 64
  law := law_ws
  obj0 := ⟨[], [], rfl, rfl, List.nodup_nil, unlG_nil, fun _ => Iff.rfl⟩
  mono := fun _ h => h
  adds := by
    rintro G H b o acc v d Nx ⟨zs, ts, e1, rfl, nd, un, hm⟩ rv ⟨⟨z, rfl⟩, few⟩ sg hb nx
    cases (show v = .str z from rv)
    have hl := un.1
    have he := strL_len e1
    refine ⟨z, zs, rfl, hb, by omega, nx _ ⟨_, ts ++ [z], strL_snoc e1, rfl, ?_, ?_, fun y => ?_⟩⟩
    · split
      · exact nd
      · rename_i h
        exact List.nodup_cons.mpr ⟨h, nd⟩
    · split
      · rename_i h
        exact unlG_old un ((hm z).mp h)
      · rename_i h
        exact unlG_new un fun q => h ((hm z).mpr q)
    · rw [List.mem_append, List.mem_singleton, ← hm y]
      split
      · rename_i h
        exact ⟨.inl, fun q => q.elim id fun q => q ▸ h⟩
      · rw [List.mem_cons]
        exact ⟨fun q => q.symm, fun q => q.symm⟩
/-- len({..}), texts -/
def lenZs (F : DA) : DE := fun ρ P R => F ρ (fun acc ρ1 => ∀ ts (n : Nat), strL acc = some ts → UnlG ts n → P (.int n) ρ1) R
theorem pd_lenZs (hK : X.K = K) {a : Expr} {F : DA} {p pos : Pos} (hm : X.mg "len" = none) (ha : PZ (setWs X K) W a F) (hg : Gl X "len" := by rfl)
    (he : starEach [a] X.env = (false, eval a X.env) :: starEach [] X.env := by rfl) (hpl : (backTo pos (starEach [] X.env)).any (·.1) = false := by rfl) :
    PD K W X (.Call (.Name "len" p) [a] [] pos) (lenZs F) := by
  refine PE.imp (pe_callB cr_lenWs hg hm PySem.boot_len (pa_cons ha pa_nil he) (by decide) (by decide) he hpl) fun σ H Q ⟨c, G, ρ, P, R, r, f, k, kx⟩ => ?_
  refine ⟨c, G, ρ, _, R, r, f, fun acc ρ1 b o H1 G1 f1 ob eb r1 s1 => ?_, kx⟩
  obtain ⟨zs, ts, e1, rfl, nd, un, hm⟩ := ob
  exact ⟨b, zs, rfl, eb, k _ _ _ _ _ (f1 ts zs.length e1 un) r1 s1 rfl⟩
/-- sorted({..}), texts -/
def srtZs (F : DA) : DE := fun ρ P R => F ρ (fun acc ρ1 => ∀ ts ys, strL acc = some ts → ys.Nodup → (∀ z, z ∈ ys ↔ z ∈ ts) → Asc ltS ys → P (.lst (ys.map .str)) ρ1) R
theorem pd_srtZs (hK : X.K = K) {a : Expr} {F : DA} {p pos : Pos} (hm : X.mg "sorted" = none) (ha : PZ (setWs X K) W a F) (hc : X.calm = true := by rfl) (hg : Gl X "sorted" := by rfl)
    (he : starEach [a] X.env = (false, eval a X.env) :: starEach [] X.env := by rfl) (hpl : (backTo pos (starEach [] X.env)).any (·.1) = false := by rfl) :
    PD K W X (.Call (.Name "sorted" p) [a] [] pos) (srtZs F) := by
  refine PE.imp (pe_callB (cr_sortWs hc) hg hm (by decide +kernel) (pa_cons ha pa_nil he) (by decide) (by decide) he hpl) fun σ H Q ⟨c, G, ρ, P, R, r, f, k, kx⟩ => ?_
  refine ⟨c, G, ρ, _, R, r, f, fun acc ρ1 b o H1 G1 f1 ob eb r1 s1 => ?_, kx⟩
  obtain ⟨zs, ts, e1, rfl, nd, un, hm⟩ := ob
  refine ⟨b, zs, rfl, eb, fun ys m pm as hn => ?_⟩
  have ex := Ext.new (o := .lst (ys.map V.str)) r1.gh hn
  exact k _ _ _ _ _ (f1 ts ys e1 (pm.nodup_iff.mpr nd) (fun z => (pm.mem_iff).trans (hm z)) as) (r1.ext ex) (s1.trans ex.g) ⟨m, _, rfl, upd_same, rp_strs ys⟩
end
/-! ### tuples of plain keys -/
section
variable {X : Cx} {K : PySem.W.Frag} {W : WX}
def keyD : Key → D
  | .inl n => .int n
  | .inr z => .str z
def keysD (ks : List Key) : D := .tup (ks.map keyD)
theorem rp_keys {G : Hp} : ∀ {ks : List Key} {xs : List V}, RpAll K G xs (ks.map keyD) → xs = ks.map kV
  | [], _, h => h
  | k :: ks, _, h => by
    obtain ⟨x, r, rfl, q, t⟩ := h
    rw [rp_keys t]
    cases k with
    | inl n =>
      cases (show x = .int n from q)
      rfl
    | inr n =>
      cases (show x = .str n from q)
      rfl
def objTs (X : Cx) (K : PySem.W.Frag) : Hp → Addr → HO → List D → Prop := fun G b o acc => ∃ L kss, acc = kss.map keysD ∧ o = TsO X.prog X.w b L ∧ TKs K G L ∧ UnlG kss L.length ∧ ∀ q, q ∈ L.map (·.2) ↔ q ∈ kss
def setTs (X : Cx) (K : PySem.W.Frag) (hK : X.K = K) (hu : X.A.units + 8 < cLine) : SKd X K where
  ini := fun b => TsO X.prog X.w b []
  put := putTs X.prog X.w X.K
  obj := objTs X K
  ok := fun acc d => (∃ ks, d = keysD ks) ∧ acc.length + 1 < 64
  law := law_ts hu
  obj0 := ⟨[], [], rfl, rfl, (fun p h => nomatch h), unlG_nil, fun _ => Iff.rfl⟩
  mono := fun s ⟨L, kss, e, eo, ht, un, hm⟩ => ⟨L, kss, e, eo, ht.mono s, un, hm⟩
  adds := by
    rintro G H b o acc v d Nx ⟨L, kss, rfl, rfl, ht, un, hm⟩ rv ⟨⟨ks, rfl⟩, few⟩ sg hb nx
    subst hK
    obtain ⟨x, xs, rfl, hx, ra⟩ := rv
    obtain rfl := rp_keys ra
    have hl := un.1
    rw [List.length_map] at few
    refine ⟨x, ks, L, rfl, same_sqT sg hx, hb, ht.mono sg, by omega, fun L' pl => nx _ ⟨L', kss ++ [ks], by rw [List.map_append]; rfl, rfl, ?_, ?_, fun q => ?_⟩⟩
    · by_cases h : ks ∈ L.map (·.2)
      · rw [pl.1 h]
        exact ht
      · intro p hp
        rcases List.mem_cons.mp ((pl.2 h).mem_iff.mp hp) with rfl | hp
        · exact hx
        · exact ht p hp
    · by_cases h : ks ∈ L.map (·.2)
      · rw [pl.1 h]
        exact unlG_old un ((hm ks).mp h)
      · rw [(pl.2 h).length_eq]
        exact unlG_new un fun q => h ((hm ks).mpr q)
    · rw [List.mem_append, List.mem_singleton, ← hm q]
      by_cases h : ks ∈ L.map (·.2)
      · rw [pl.1 h]
        exact ⟨.inl, fun z => z.elim id fun z => z ▸ h⟩
      · have pm := (pl.2 h).map (·.2)
        rw [pm.mem_iff, List.map_cons, List.mem_cons]
        exact ⟨fun z => z.symm, fun z => z.symm⟩
/-- len({..}), tuples -/
def lenZt (F : DA) : DE := fun ρ P R => F ρ (fun acc ρ1 => ∀ kss (n : Nat), acc = kss.map keysD → UnlG kss n → P (.int n) ρ1) R
theorem pd_lenZt (hK : X.K = K) (hu : X.A.units + 8 < cLine) {a : Expr} {F : DA} {p pos : Pos} (hm : X.mg "len" = none) (ha : PZ (setTs X K hK hu) W a F) (hg : Gl X "len" := by rfl)
    (he : starEach [a] X.env = (false, eval a X.env) :: starEach [] X.env := by rfl) (hpl : (backTo pos (starEach [] X.env)).any (·.1) = false := by rfl) :
    PD K W X (.Call (.Name "len" p) [a] [] pos) (lenZt F) := by
  refine PE.imp (pe_callB cr_lenTs hg hm PySem.boot_len (pa_cons ha pa_nil he) (by decide) (by decide) he hpl) fun σ H Q ⟨c, G, ρ, P, R, r, f, k, kx⟩ => ?_
  refine ⟨c, G, ρ, _, R, r, f, fun acc ρ1 b o H1 G1 f1 ob eb r1 s1 => ?_, kx⟩
  obtain ⟨L, kss, e1, rfl, ht, un, hm⟩ := ob
  exact ⟨b, L, rfl, eb, k _ _ _ _ _ (f1 kss L.length e1 un) r1 s1 rfl⟩
end
end Vf

set_option Elab.async false
set_option linter.all false
set_option maxRecDepth 100000
set_option maxHeartbeats 4000000
/-! {e for x in xs for y in ys} -/
namespace Vf
open PySem PySem.Spec PyProof.Rows L2 PpSet
section
variable {elt t0 i0 t1 i1 : Expr} {c0 c1 : List Expr} {scope : Scope} {pos : Pos} {it acc : Value} {env : Env}

theorem turn_out : compTurn (.SetComp elt [⟨t0, i0, c0, 0⟩, ⟨t1, i1, c1, 0⟩] scope pos) 0 it acc env = (do
    standAt i0.pos
    match ← pyNext it with
    | none => pure (.done .next)
    | some v =>
      letOwnedTupleGo t0 it v
      assign t0 env v
      let mut go := true
      for c in c0 do
        if go then go ← isTrue c env (eval c env)
      if go then
        let z ← eval i1 env
        standAt i1.pos
        let z ← foldedSetIterable i1 env z
        let _ ← runOwn (.compStart (.SetComp elt [⟨t0, i0, c0, 0⟩, ⟨t1, i1, c1, 0⟩] scope pos) 1 (← holding [z] (pyIter z)) acc env) env
      again (.compLoop (.SetComp elt [⟨t0, i0, c0, 0⟩, ⟨t1, i1, c1, 0⟩] scope pos) 0 it acc env)) := by rfl
theorem turn_in : compTurn (.SetComp elt [⟨t0, i0, c0, 0⟩, ⟨t1, i1, c1, 0⟩] scope pos) 1 it acc env = (do
    standAt i1.pos
    match ← pyNext it with
    | none => pure (.done .next)
    | some v =>
      letOwnedTupleGo t1 it v
      assign t1 env v
      let mut go := true
      for c in c1 do
        if go then go ← isTrue c env (eval c env)
      if go then
        (do let z ← eval elt env; standAt elt.pos; let _ ← call (.builtin "set.add") [acc, z])
      again (.compLoop (.SetComp elt [⟨t0, i0, c0, 0⟩, ⟨t1, i1, c1, 0⟩] scope pos) 1 it acc env)) := by rfl
variable {prog : Program} {w : World} {A : Around} {R : Result → Shared → Prop} {s : Shared}
abbrev Nb (prog : Program) (w : World) (A : Around) (env : Env) (R : Result → Shared → Prop) : Value → Shared → Prop := notedBy (model prog w) A env fun e s' => R (.error e) s'
/-- the tests of a clause, one behind another -/
abbrev tests (env : Env) (cs : List Expr) : Sem Bool := forIn cs true fun c r => if r = true then do let go ← isTrue c env (eval c env); pure (ForInStep.yield go) else pure (ForInStep.yield r)
theorem loop_out (plain : ∀ z, foldedSetIterable i1 env z = pure z) (I : Nat → Shared → Prop)
    (step : ∀ n s, I n s → wpAny (model prog w) A (pyNext it) (fun r s1 => match r with
      | none => R (.ok .next) s1
      | some v => wpAny (model prog w) A (letOwnedTupleGo t0 it v) (fun _ s2 => wpAny (model prog w) A (assign t0 env v) (fun _ s3 => wpAny (model prog w) A (tests env c0) (fun go s4 =>
          if go = true then wpAny (model prog w) A (eval i1 env) (fun z s5 => wpAny (model prog w) A (pyIter z) (fun jt s6 =>
            codeAny (model prog w) A (.compStart (.SetComp elt [⟨t0, i0, c0, 0⟩, ⟨t1, i1, c1, 0⟩] scope pos) 1 jt acc env) (fun r s' => match r with
              | .ok _ => ∃ m, m < n ∧ I m s'
              | .error _ => False) s6) (Nb prog w A env R) s5) (Nb prog w A env R) s4
          else ∃ m, m < n ∧ I m s4) (Nb prog w A env R) s3) (Nb prog w A env R) s2) (Nb prog w A env R) s1) (Nb prog w A env R) s)
    (n : Nat) (h : I n s) : codeAny (model prog w) A (.compLoop (.SetComp elt [⟨t0, i0, c0, 0⟩, ⟨t1, i1, c1, 0⟩] scope pos) 0 it acc env) R s := by
  refine codeAny_loop rfl I (fun n s hI => ?_) n h
  show wpAny _ A ((compTurn (.SetComp elt [⟨t0, i0, c0, 0⟩, ⟨t1, i1, c1, 0⟩] scope pos) 0 it acc env).onRaise _) _ _ s
  refine wpAny_noted ?_
  rw [turn_out]
  refine wpAny_bind (wpAny_standAt (wpAny_bind (wpAny_mono (step n s hI) (fun r s1 q1 => ?_) fun _ _ z => z)))
  cases r with
  | none => exact wpAny_pure q1
  | some v =>
    refine wpAny_bind (wpAny_mono q1 (fun _ s2 q2 => wpAny_bind (wpAny_mono q2 (fun _ s3 q3 => wpAny_bind (wpAny_mono q3 (fun go s4 q4 => ?_) fun _ _ z => z)) fun _ _ z => z)) fun _ _ z => z)
    cases go with
    | false => exact wpAny_pure ⟨rfl, q4⟩
    | true =>
      refine wpAny_bind (wpAny_mono q4 (fun x s5 q5 => ?_) fun _ _ z => z)
      refine wpAny_bind (wpAny_standAt (wpAny_bind (wpAny_of_eq (plain x) (wpAny_bind (wpAny_holding (wpAny_mono q5 (fun jt s6 q6 => ?_) fun _ _ z => z))))))
      refine wpAny_bind (wpAny_runOwn ?_)
      rw [Around.mark_none]
      refine codeAny_mono q6 fun r s' z => ?_
      cases r with
      | error e => exact z.elim
      | ok f =>
        first
          | exact wpAny_bind (wpAny_pure (wpAny_pure ⟨rfl, z⟩))
          | exact wpAny_pure ⟨rfl, z⟩
theorem loop_in (I : Nat → Shared → Prop)
    (step : ∀ n s, I n s → wpAny (model prog w) A (pyNext it) (fun r s1 => match r with
      | none => R (.ok .next) s1
      | some v => wpAny (model prog w) A (letOwnedTupleGo t1 it v) (fun _ s2 => wpAny (model prog w) A (assign t1 env v) (fun _ s3 => wpAny (model prog w) A (tests env c1) (fun go s4 =>
          if go = true then wpAny (model prog w) A (eval elt env) (fun z s5 => wpAny (model prog w) A (call (.builtin "set.add") [acc, z]) (fun _ s6 => ∃ m, m < n ∧ I m s6) (Nb prog w A env R) s5) (Nb prog w A env R) s4
          else ∃ m, m < n ∧ I m s4) (Nb prog w A env R) s3) (Nb prog w A env R) s2) (Nb prog w A env R) s1) (Nb prog w A env R) s)
    (n : Nat) (h : I n s) : codeAny (model prog w) A (.compLoop (.SetComp elt [⟨t0, i0, c0, 0⟩, ⟨t1, i1, c1, 0⟩] scope pos) 1 it acc env) R s := by
  refine codeAny_loop rfl I (fun n s hI => ?_) n h
  show wpAny _ A ((compTurn (.SetComp elt [⟨t0, i0, c0, 0⟩, ⟨t1, i1, c1, 0⟩] scope pos) 1 it acc env).onRaise _) _ _ s
  refine wpAny_noted ?_
  rw [turn_in]
  refine wpAny_bind (wpAny_standAt (wpAny_bind (wpAny_mono (step n s hI) (fun r s1 q1 => ?_) fun _ _ z => z)))
  cases r with
  | none => exact wpAny_pure q1
  | some v =>
    refine wpAny_bind (wpAny_mono q1 (fun _ s2 q2 => wpAny_bind (wpAny_mono q2 (fun _ s3 q3 => wpAny_bind (wpAny_mono q3 (fun go s4 q4 => ?_) fun _ _ z => z)) fun _ _ z => z)) fun _ _ z => z)
    cases go with
    | false => exact wpAny_pure ⟨rfl, q4⟩
    | true => exact wpAny_bind (wpAny_bind (wpAny_mono q4 (fun x s5 q5 => wpAny_bind (wpAny_standAt (wpAny_bind (wpAny_mono q5 (fun _ s6 q6 => wpAny_pure (wpAny_pure ⟨rfl, q6⟩)) fun _ _ z => z)))) fun _ _ z => z))
theorem start_in (h0 : codeAny (model prog w) A (.compLoop (.SetComp elt [⟨t0, i0, c0, 0⟩, ⟨t1, i1, c1, 0⟩] scope pos) 1 it acc env) R s)
    (h : wpAny (model prog w) A (pyIter it) (fun jt s' => codeAny (model prog w) A (.compLoop (.SetComp elt [⟨t0, i0, c0, 0⟩, ⟨t1, i1, c1, 0⟩] scope pos) 1 jt acc env) R s') (Nb prog w A env R) s) :
    codeAny (model prog w) A (.compStart (.SetComp elt [⟨t0, i0, c0, 0⟩, ⟨t1, i1, c1, 0⟩] scope pos) 1 it acc env) R s := by
  refine codeAny_of_tree ?_
  show wpAny _ _ ((compStart (.SetComp elt [⟨t0, i0, c0, 0⟩, ⟨t1, i1, c1, 0⟩] scope pos) 1 it acc env).onRaise _) _ _ s
  refine wpAny_notedAt ?_
  unfold compStart
  show wpAny _ _ (ask >>= _) _ _ s
  refine wpAny_bind (wpAny_askSetting (wpAny_ite ?_))
  split
  · first
      | exact wpAny_pure (And.intro rfl h0)
      | exact wpAny_bind (wpAny_pure (wpAny_pure (And.intro rfl h0)))
  · refine wpAny_bind (wpAny_rule ?_)
    show wpAny _ _ (standAt i1.pos >>= _) _ _ s
    exact wpAny_bind (wpAny_standAt (wpAny_bind (wpAny_mono h (fun jt s' q => wpAny_pure (And.intro rfl q)) fun _ _ z => z)))
end

section
variable {X : Cx} {ini : Addr → HO} {put : Hp → Addr → V → (Hp → Prop) → Prop}
/-- vs: all names of the block; vs1: those of the second target -/
def tSetC2 (ini : Addr → HO) (put : Hp → Addr → V → (Hp → Prop) → Prop) (wi : TI) (g : TG) (tt : TT) (wi1 : TI) (g1 : TG) (tt1 : TT) (te : TE) (vs vs1 : List Nat) : TE := fun σ H Q => wi σ H fun J H1 => ∀ D, H1 D = none →
  ∃ W : Nat → Nat → Hp → Prop, (∃ m, W 0 m (upd H1 D (ini D))) ∧ ∀ i m H, W i m H → (J.stop i H ∧ Q (.ref D) H) ∨ (J.go i H ∧ ∃ Nx : Hp → Prop, (∀ H', Nx H' → ∃ m', m' < m ∧ W (i + 1) m' H') ∧
    ∀ x H', J.yld i H x H' → g x (wipe σ vs) H' fun σ2 H2 => wipe σ2 vs = wipe σ vs ∧ tt σ2 H2 fun b H3 => if b = true then wi1 σ2 H3 fun J1 H4 =>
      ∃ W1 : Nat → Nat → Hp → Prop, (∃ m, W1 0 m H4) ∧ ∀ j k H, W1 j k H → (J1.stop j H ∧ Nx H) ∨ (J1.go j H ∧ ∃ Ny : Hp → Prop, (∀ H', Ny H' → ∃ k', k' < k ∧ W1 (j + 1) k' H') ∧
        ∀ x H', J1.yld j H x H' → g1 x (wipe σ2 vs1) H' fun σ3 H5 => wipe σ3 vs1 = wipe σ2 vs1 ∧ tt1 σ3 H5 fun b H6 => if b = true then te σ3 H6 fun y H7 => put H7 D y Ny else Ny H6) else Nx H3)
theorem pe_setC2 {elt tg iter tg1 iter1 : Expr} {ifs ifs1 : List Expr} {scope : Scope} {own : List (PySem.Str × Nat)} {vs1 : List Nat} {pos : Pos} {wi wi1 : TI} {g g1 : TG} {tt tt1 : TT} {te : TE} (L : SetLaw X ini put) (hc : X.calm = true) (hN : X.N.Nodup) (hi : PI X tg iter wi) (ok : BlkOk X.N X.env.scope scope own) (hv : ∀ i ∈ vs1, i ∈ own.map (·.2))
    (hg : ∀ (s : Shared) (H : Hp) (C : Addr) (cl : List (PySem.Str × Addr)) (fp : List Addr), PG (X.blk s H scope (compEnvC scope cl C X.env) fp) tg g) (ht : ∀ (s : Shared) (H : Hp) (C : Addr) (cl : List (PySem.Str × Addr)) (fp : List Addr), PTs (X.blk s H scope (compEnvC scope cl C X.env) fp) ifs tt)
    (hi1 : ∀ (s : Shared) (H : Hp) (C : Addr) (cl : List (PySem.Str × Addr)) (fp : List Addr), PI (X.blk s H scope (compEnvC scope cl C X.env) fp) tg1 iter1 wi1)
    (hg1 : ∀ (s : Shared) (H : Hp) (C : Addr) (cl : List (PySem.Str × Addr)) (fp : List Addr), PG (X.blk s H scope (compEnvC scope cl C X.env) fp) tg1 g1) (ht1 : ∀ (s : Shared) (H : Hp) (C : Addr) (cl : List (PySem.Str × Addr)) (fp : List Addr), PTs (X.blk s H scope (compEnvC scope cl C X.env) fp) ifs1 tt1)
    (he : ∀ (s : Shared) (H : Hp) (C : Addr) (cl : List (PySem.Str × Addr)) (fp : List Addr), PE (X.blk s H scope (compEnvC scope cl C X.env) fp) elt te) (hs : ∀ x, foldedSetIterable iter X.env x = pure x := by intro _; rfl) (hs1 : ∀ env x, foldedSetIterable iter1 env x = pure x := by intro _ _; rfl) :
    PE X (.SetComp elt [⟨tg, iter, ifs, 0⟩, ⟨tg1, iter1, ifs1, 0⟩] scope pos) (tSetC2 ini put wi g tt wi1 g1 tt1 te (own.map (·.2)) vs1) := by
  refine ⟨fun pins s σ H Q I h => ?_⟩
  rw [eval_SetComp]
  have clo : ∀ y ∈ scope.names, y.2 = .free → ∃ c, X.env.cells.lookup y.1 = some c := fun y hy e => (ok.free y hy e).elim (fun k => I.ok.has _ (.inl k)) fun k => I.ok.has _ (.inr k)
  refine wpAny_comprehension_free (use := none) rfl hs (closure_ok clo) ok.kind (fun y hy e => by rw [ok.uniq y hy, e]) (thn (hi.run pins s σ H _ I h) fun xv s1 hx => thn hx fun itv s2 ⟨it, fp, tn, J, H2, eit, I2, T, st2, f2, q⟩ => ?_)
  subst eit
  refine newSet_ok (newEnv_comp ?_)
  obtain ⟨D, hD⟩ : ∃ D, D = s2.heap.objs.size := ⟨_, rfl⟩
  rw [← hD]
  have nD : H2 D = none := I2.hok.fresh (Nat.le_of_eq hD.symm)
  obtain ⟨W, ⟨m0, w0⟩, turn⟩ := q D nD
  obtain ⟨s3, es3⟩ : ∃ s3 : Shared, s3 = { s2 with heap := s2.heap.push { cls := .type "set", dict := none, data := .set #[] 0 (.fresh 0 0 (!X.w.params.followText "set-order")) } } := ⟨_, rfl⟩
  rw [← es3]
  have h3 : s3.heap = s2.heap.push { cls := .type "set", dict := none, data := .set #[] 0 (.fresh 0 0 (!X.w.params.followText "set-order")) } := by rw [es3]
  obtain ⟨H3, eH3⟩ : ∃ H3, H3 = upd H2 D (ini D) := ⟨_, rfl⟩
  rw [← eH3] at w0
  have I3 : Inv X pins σ H3 s3 := by
    rw [es3, eH3]
    refine I2.laid (t' := s2.toks) (fun b o e => Heap.get?_push_of_some _ e) (Nat.le_of_eq hD.symm) (L.new ?_)
    rw [hD]
    exact Heap.get?_push_size _ rfl
  have f3 : ∀ b ∈ fp, FpOk X pins H3 b ∧ b < s3.heap.objs.size := fun b hb => by
    obtain ⟨o, e, _⟩ := T.obj _ _ st2 b hb
    have lt := Heap.lt_size e
    refine ⟨⟨?_, (f2 b hb).2⟩, by rw [h3, Heap.size_push]; exact Nat.lt_succ_of_lt lt⟩
    rw [eH3, upd_ne (by rw [hD]; exact Nat.ne_of_lt lt)]
    exact (f2 b hb).1
  have st3 : tn 0 s3.heap := T.keep _ _ _ st2 fun b _ o e => by rw [h3]; exact Heap.get?_push_of_some _ e
  have n3 : ∀ b ∈ fp, H3 b = none := fun b hb => (f3 b hb).1.1
  have I4 := block_start I3 ok hN f3
  obtain ⟨C, hC⟩ : ∃ C, C = s3.heap.objs.size := ⟨_, rfl⟩
  rw [← hC] at I4 ⊢
  obtain ⟨cl, hcl⟩ : ∃ cl, cl = cellsFrom (C + 1) scope.names (cloFrom X.env.cells scope.names []) := ⟨_, rfl⟩
  rw [← hcl] at I4 ⊢
  have pg := hg s3 H3 C cl fp
  have pt := ht s3 H3 C cl fp
  have pe := he s3 H3 C cl fp
  have qi := hi1 s3 H3 C cl fp
  have qg := hg1 s3 H3 C cl fp
  have qt := ht1 s3 H3 C cl fp
  show codeAny _ _ (.compStart (.SetComp elt [⟨tg, iter, ifs, 0⟩, ⟨tg1, iter1, ifs1, 0⟩] scope pos) 0 (.ref it) (.ref D) (compEnvC scope cl C X.env)) (compPost (model X.prog X.w) X.A X.xe none _ (.ref D) C) _
  obtain ⟨ce, hce⟩ : ∃ ce, ce = compEnvC scope cl C X.env := ⟨_, rfl⟩
  rw [← hce] at I4 pg pt pe qi qg qt ⊢
  have cL : ce.locals = C := by rw [hce] <;> rfl
  obtain ⟨s4, es4⟩ : ∃ s4 : Shared, s4 = { s3 with heap := pushCells (s3.heap.push { cls := .type "dict", data := .dict #[] }) scope.names } := ⟨_, rfl⟩
  show codeAny _ _ _ _ { s3 with heap := pushCells (s3.heap.push { cls := .type "dict", data := .dict #[] }) scope.names }
  rw [← es4]
  have I4 : Inv (X.blk s3 H3 scope ce fp) [] (wipe σ (own.map (·.2))) H3 s4 := by
    rw [es4]
    exact I4
  have st4 : tn 0 s4.heap := T.keep _ _ _ st3 fun b _ o e => by rw [es4]; exact pushCells_keeps _ _ _ _ (Heap.get?_push_of_some _ e)
  have stat : ∀ {σ' : L2.St} {H' : Hp} {s' : Shared}, Inv (X.blk s3 H3 scope ce fp) [] σ' H' s' → (∀ b ∈ fp, H' b = none) → ∀ b ∈ fp, FpOk (X.blk s3 H3 scope ce fp) [] H' b := fun {σ' H' s'} I' hn b hb =>
    ⟨hn b hb, (I'.ok.exf b hb).1, I'.ok.exfs b hb, .inl hb, fun x c e => (I'.ok.exf b hb).2 x c e, fun p hp => absurd (show p ∈ ([] : List (Addr × Obj)) ++ [] from hp) (by simp)⟩
  have loop : codeAny (model X.prog X.w) X.A (.compLoop (.SetComp elt [⟨tg, iter, ifs, 0⟩, ⟨tg1, iter1, ifs1, 0⟩] scope pos) 0 (.ref it) (.ref D) ce) (compPost (model X.prog X.w) X.A X.xe none (EP X pins σ Q) (.ref D) C) s4 := by
    refine loop_out (hs1 ce) (fun n s' => ∃ i H', Inv (X.blk s3 H3 scope ce fp) [] (wipe σ (own.map (·.2))) H' s' ∧ tn i s'.heap ∧ (∀ b ∈ fp, H' b = none) ∧ W i n H') ?_ m0 ⟨0, H3, I4, st4, n3, w0⟩
    rintro n s5 ⟨i, H5, I5, st5, n5, w5⟩
    rcases turn i n H5 w5 with ⟨stop, qq⟩ | ⟨go, Nx, hNx, step⟩
    · refine thnF (T.done (X.blk s3 H3 scope ce fp) rfl rfl rfl hc i [] s5 _ H5 (fun _ _ => False) I5 (stat I5 n5) st5 stop) fun r s6 ⟨hr, I6⟩ => ?_
      subst hr
      have I7 : Inv X pins σ H5 s6 := I3.call' (ch := fp) I6.os I6.base I6.hok I6.bare fun b hb => ⟨(f3 b hb).1.2.2.2.1, (f3 b hb).1.2.1, (f3 b hb).1.2.2.2.2.1, (f3 b hb).1.2.2.2.2.2⟩
      have nC : H5 C = none := by
        have z : H5 ce.locals = none := I6.free
        rwa [cL] at z
      obtain ⟨m, hn, _⟩ := I6.loc
      have hn : s6.heap.Ns ce.locals m := hn
      rw [cL] at hn
      refine ⟨m, hn, fun h'' sb => ?_⟩
      obtain ⟨k0, k1, k2, k3, k4, k5⟩ := I3.fpOk (Nat.le_of_eq hC.symm) nC
      exact ⟨.ref D, H5, I7.turned (t' := s6.toks) (fun b o hb e => (sb.2 b hb).trans e) k0 k1 k3 k4 k5, rfl, qq⟩
    · refine thnF (T.item (X.blk s3 H3 scope ce fp) rfl rfl rfl hc i [] s5 _ H5 (fun _ _ => False) I5 (stat I5 n5) st5 go) fun r s6 ⟨u, hr, h6⟩ => ?_
      subst hr
      refine thnF h6 fun _ s7 ⟨x, H7, I7, r7, y7, st7, n7⟩ => ?_
      refine thnF (pg.run _ s7 _ H7 x u _ (I7.pinned (stat I7 n7) (T.obj _ _ st7)) r7 (step x H7 y7)) fun _ s8 ⟨σ8, H8, I8, hw8, q8⟩ => ?_
      refine thnF (pt.run _ s8 σ8 H8 _ I8 q8) fun b s9 ⟨H9, I9, q9⟩ => ?_
      -- back at the turn's start, whatever the block's own names hold
      have back : ∀ {σ9 : L2.St} {s' : Shared} {H' : Hp}, Inv (X.blk s3 H3 scope ce fp) ([] ++ pinsAt fp s7.heap) σ9 H' s' → (wipe σ (own.map (·.2))).length = σ9.length → (∀ (j : Nat) v, (wipe σ (own.map (·.2)))[j]? = some (some v) → σ9[j]? = some (some v)) → Nx H' → ∃ m, m < n ∧ ∃ i H', Inv (X.blk s3 H3 scope ce fp) [] (wipe σ (own.map (·.2))) H' s' ∧ tn i s'.heap ∧ (∀ b ∈ fp, H' b = none) ∧ W i m H' := fun {σ9 s' H'} I' ln kn nx => by
        obtain ⟨m', hm, w'⟩ := hNx H' nx
        have pin : ∀ b ∈ fp, ∀ o, s7.heap.get? b = some o → s'.heap.get? b = some o ∧ H' b = none := fun b hb o e =>
          have z := I'.pin (b, o) (List.mem_append_right _ (List.mem_append_right _ (mem_pinsAt hb e)))
          ⟨z.1, z.2.1⟩
        refine ⟨m', hm, i + 1, H', (I'.unpinned (pins := [])).weak ln kn, T.keep _ _ _ st7 fun b hb o e => (pin b hb o e).1, fun b hb => ?_, w'⟩
        obtain ⟨o, e, _⟩ := T.obj _ _ st7 b hb
        exact (pin b hb o e).2
      have ln8 : (wipe σ (own.map (·.2))).length = σ8.length := by rw [← hw8, wipe_length]
      have kn8 : ∀ (j : Nat) v, (wipe σ (own.map (·.2)))[j]? = some (some v) → σ8[j]? = some (some v) := fun j v e => by
        rw [← hw8] at e
        exact (wipe_some e).1
      have kn9 : ∀ (j : Nat) v, (wipe σ (own.map (·.2)))[j]? = some (some v) → (wipe σ8 vs1)[j]? = some (some v) := fun j v e => by
        rw [← hw8] at e
        have ⟨e1, e2⟩ := wipe_some e
        rw [wipe_out fun z => e2 (hv j z)]
        exact e1
      cases b with
      | false =>
        rw [if_neg (by decide)] at q9 ⊢
        exact back I9 ln8 kn8 q9
      | true =>
        rw [if_pos rfl] at q9 ⊢
        refine thnF (qi.run _ s9 σ8 H9 _ I9 q9) fun xw t0 hx => thnF hx fun jv t1 ⟨jt, fq, un, K, G1, ejt, J1, U, su1, fu1, W1, ⟨m1, w1⟩, turn1⟩ => ?_
        subst ejt
        have stat1 : ∀ {H' : Hp}, (∀ b ∈ fq, H' b = none) → ∀ b ∈ fq, FpOk (X.blk s3 H3 scope ce fp) ([] ++ pinsAt fp s7.heap) H' b := fun hn b hb => ⟨hn b hb, (fu1 b hb).2⟩
        have inner : codeAny (model X.prog X.w) X.A (.compLoop (.SetComp elt [⟨tg, iter, ifs, 0⟩, ⟨tg1, iter1, ifs1, 0⟩] scope pos) 1 (.ref jt) (.ref D) ce) (fun r s' => match r with
            | .ok _ => ∃ m, m < n ∧ ∃ i H', Inv (X.blk s3 H3 scope ce fp) [] (wipe σ (own.map (·.2))) H' s' ∧ tn i s'.heap ∧ (∀ b ∈ fp, H' b = none) ∧ W i m H'
            | .error _ => False) t1 := by
          refine loop_in (fun k s' => ∃ j H', Inv (X.blk s3 H3 scope ce fp) ([] ++ pinsAt fp s7.heap) (wipe σ8 vs1) H' s' ∧ un j s'.heap ∧ (∀ b ∈ fq, H' b = none) ∧ W1 j k H') ?_ m1 ⟨0, G1, J1.weak (wipe_length _ _) (fun j v e => (wipe_some e).1), su1, fun b hb => (fu1 b hb).1, w1⟩
          rintro k t2 ⟨j, G2, J2, su2, nu2, w2⟩
          rcases turn1 j k G2 w2 with ⟨stop1, nx1⟩ | ⟨go1, Ny, hNy, step1⟩
          · refine thnF (U.done (X.blk s3 H3 scope ce fp) rfl rfl rfl hc j _ t2 (wipe σ8 vs1) G2 (fun _ _ => False) J2 (stat1 nu2) su2 stop1) fun r t3 ⟨hr, J3⟩ => ?_
            subst hr
            exact back J3 (ln8.trans (wipe_length σ8 vs1).symm) kn9 nx1
          · refine thnF (U.item (X.blk s3 H3 scope ce fp) rfl rfl rfl hc j _ t2 (wipe σ8 vs1) G2 (fun _ _ => False) J2 (stat1 nu2) su2 go1) fun r t3 ⟨u1, hr, z3⟩ => ?_
            subst hr
            refine thnF z3 fun _ t4 ⟨x1, G4, J4, r4, y4, su4, nu4⟩ => ?_
            refine thnF (qg.run _ t4 (wipe σ8 vs1) G4 x1 u1 _ (J4.pinned (stat1 nu4) (U.obj _ _ su4)) r4 (step1 x1 G4 y4)) fun _ t5 ⟨σ5, G5, J5, hw5, q5⟩ => ?_
            refine thnF (qt.run _ t5 σ5 G5 _ J5 q5) fun b1 t6 ⟨G6, J6, q6⟩ => ?_
            have back1 : ∀ {s' : Shared} {H' : Hp}, Inv (X.blk s3 H3 scope ce fp) (([] ++ pinsAt fp s7.heap) ++ pinsAt fq t4.heap) σ5 H' s' → Ny H' → ∃ m, m < k ∧ ∃ j H', Inv (X.blk s3 H3 scope ce fp) ([] ++ pinsAt fp s7.heap) (wipe σ8 vs1) H' s' ∧ un j s'.heap ∧ (∀ b ∈ fq, H' b = none) ∧ W1 j m H' := fun {s' H'} I' nx => by
              obtain ⟨m', hm, w'⟩ := hNy H' nx
              have pin : ∀ b ∈ fq, ∀ o, t4.heap.get? b = some o → s'.heap.get? b = some o ∧ H' b = none := fun b hb o e =>
                have z := I'.pin (b, o) (List.mem_append_right _ (List.mem_append_right _ (mem_pinsAt hb e)))
                ⟨z.1, z.2.1⟩
              refine ⟨m', hm, j + 1, H', I'.unpinned.weak (by rw [← hw5, wipe_length]) (fun j v e => ?_), U.keep _ _ _ su4 fun b hb o e => (pin b hb o e).1, fun b hb => ?_, w'⟩
              · rw [← hw5] at e
                exact (wipe_some e).1
              · obtain ⟨o, e, _⟩ := U.obj _ _ su4 b hb
                exact (pin b hb o e).2
            cases b1 with
            | false =>
              rw [if_neg (by decide)] at q6 ⊢
              exact back1 J6 q6
            | true =>
              rw [if_pos rfl] at q6 ⊢
              refine thnF (pe.run _ t6 σ5 G6 _ J6 q6) fun z t7 ⟨yv, G7, J7, r7', hp⟩ => ?_
              exact L.add (X.blk s3 H3 scope ce fp) rfl rfl rfl rfl J7 r7' hp fun t8 G8 J8 nx => back1 J8 nx
        exact start_in inner (U.self X.A 0 _ _ _ su1 inner)
  exact codeAny_compStart_set loop (T.self X.A 0 _ _ _ st4 loop)
end
end Vf

set_option Elab.async false
set_option linter.all false
set_option maxRecDepth 100000
set_option maxHeartbeats 1000000
/-! set comprehensions with two fors -/
namespace Vf
open PySem PySem.Spec PyProof.Rows L2
section
variable {X : Cx} {K : PySem.W.Frag} {W : WX}
def cmpZ2 (ok : List D → D → Prop) (Fg : DG) (Fi1 : DI) (Fg1 : DG) (Fe : DE) (vs vs1 : List Nat) (ρ : Ev) : List D → List D → (List D → Prop) → Prop
  | [], acc, Q => Q acc
  | d :: ds, acc, Q => Fg d (wipeE ρ vs) fun ρ1 => Fi1 ρ1 (fun l ρ2 => ρ2 = ρ1 ∧ okVs ρ1 vs1 ∧ cmpZ ok Fg1 Fe vs1 ρ1 l acc fun acc' => cmpZ2 ok Fg Fi1 Fg1 Fe vs vs1 ρ ds acc' Q) noR
def compZ2 (ok : List D → D → Prop) (Fi : DI) (Fg : DG) (Fi1 : DI) (Fg1 : DG) (Fe : DE) (vs vs1 : List Nat) : DA := fun ρ P R => Fi ρ (fun l ρ1 => okVs ρ1 vs ∧ cmpZ2 ok Fg Fi1 Fg1 Fe vs vs1 ρ1 l [] fun acc => P acc ρ1) R
theorem LZ.comp2 (S : SKd X K) {Fi Fi1 : DI} {Fg Fg1 : DG} {Fe : DE} {vs vs1 : List Nat} {t t1 : TG} {σ : L2.St} {H : Hp} {Q : VK} {W' W1' : WX} (ht : TgOk K t Fg vs) (ht1 : TgOk K t1 Fg1 vs1) (hv : ∀ i ∈ vs1, i ∈ vs) (h : LZ S W (compZ2 S.ok Fi Fg Fi1 Fg1 Fe vs vs1) σ H Q) :
    tSetC2 S.ini S.put (LI K W Fi) t (LT K W' yesT) (LI K W1' Fi1) t1 (LT K W' yesT) (LE K W' Fe) vs vs1 σ H Q := by
  obtain ⟨c, G, ρ, P, R, r, f, k, kx⟩ := h
  refine ⟨c, G, ρ, _, R, r, f, fun l ρ1 J H1 G1 f1 r1 s1 w1 A hA => ?_, kx⟩
  obtain ⟨ok, f1⟩ := f1
  have oD := r1.outD_of hA
  refine ⟨fun i m H' => ∃ G' acc o, m = l.length - i ∧ i ≤ l.length ∧ cmpZ2 S.ok Fg Fi1 Fg1 Fe vs vs1 ρ1 (l.drop i) acc (fun acc => P acc ρ1) ∧ Rep K (cD c A o) σ H' G' ρ1 ∧ S.obj G' A o acc ∧ Same G1 G', ⟨_, G1, [], S.ini A, rfl, Nat.zero_le _, f1, r1.inD hA, S.obj0, Same.refl _⟩, ?_⟩
  rintro i m H' ⟨G', acc, o, rfl, hi, f', r', ob, s'⟩
  obtain ⟨w2, w3⟩ := w1 i H' G' s' r'.gh
  by_cases hl : i < l.length
  · obtain ⟨hgo, hy⟩ := w2 l[i] (List.getElem?_eq_getElem hl)
    rw [List.drop_eq_getElem_cons hl] at f'
    refine .inr ⟨hgo, fun H'' => ∃ G'' acc'' o'', cmpZ2 S.ok Fg Fi1 Fg1 Fe vs vs1 ρ1 (l.drop (i + 1)) acc'' (fun acc => P acc ρ1) ∧ Rep K (cD c A o'') σ H'' G'' ρ1 ∧ S.obj G'' A o'' acc'' ∧ Same G1 G'', fun H'' ⟨G'', acc'', o'', f'', r'', ob'', s''⟩ => ⟨l.length - (i + 1), by omega, G'', acc'', o'', rfl, hl, f'', r'', ob'', s''⟩, fun x H2 hx => ?_⟩
    obtain ⟨G2, ex, rp⟩ := hy x H2 hx
    have ra := r'.ext ex
    have sG2 := s'.trans ex.g
    refine ht.ok (cD c A o) (wipe σ vs) H2 G2 (wipeE ρ1 vs) x _ _ _ (ra.wiped vs) rp f' fun ρ3 σ3 f3 r3 l3 m3 => ⟨?_, ?_⟩
    · rw [l3.wipe]
      exact (like_wipe vs σ).wipe
    have lk : Like vs σ σ3 := (like_wipe vs σ).trans l3
    have mk : Like vs ρ1 ρ3 := (like_wipeE vs ρ1).trans m3
    refine ⟨cD c A o, G2, ρ3, fun b ρ4 => b = true ∧ ρ4 = ρ3, noR, r3, ⟨rfl, rfl⟩, fun b ρ4 H4 G4 f4 r4 s4 => ?_, LX.no⟩
    obtain ⟨rfl, rfl⟩ := f4
    rw [if_pos rfl]
    refine ⟨cD c A o, G4, ρ4, _, noR, r4, f3, fun l1 ρ5 J1 H5 G5 f5 r5 s5 w5 => ?_, LX.no⟩
    obtain ⟨rfl, ok1, f5⟩ := f5
    have sG5 := sG2.trans (s4.trans s5)
    refine ⟨fun j m H' => ∃ G' acc o, m = l1.length - j ∧ j ≤ l1.length ∧ cmpZ S.ok Fg1 Fe vs1 ρ5 (l1.drop j) acc (fun acc' => cmpZ2 S.ok Fg Fi1 Fg1 Fe vs vs1 ρ1 (l.drop (i + 1)) acc' fun acc => P acc ρ1) ∧ Rep K (cD c A o) σ3 H' G' ρ5 ∧ S.obj G' A o acc ∧ Same G5 G', ⟨_, G5, acc, o, rfl, Nat.zero_le _, f5, r5, S.mono (ex.g.trans (s4.trans s5)) ob, Same.refl _⟩, ?_⟩
    rintro j m H6 ⟨G6, acc6, o6, rfl, hj, f6, r6, ob6, s6⟩
    obtain ⟨w6, w7⟩ := w5 j H6 G6 s6 r6.gh
    by_cases hl1 : j < l1.length
    · obtain ⟨hgo1, hy1⟩ := w6 l1[j] (List.getElem?_eq_getElem hl1)
      rw [List.drop_eq_getElem_cons hl1] at f6
      refine .inr ⟨hgo1, fun H'' => ∃ G'' acc'' o'', cmpZ S.ok Fg1 Fe vs1 ρ5 (l1.drop (j + 1)) acc'' (fun acc' => cmpZ2 S.ok Fg Fi1 Fg1 Fe vs vs1 ρ1 (l.drop (i + 1)) acc' fun acc => P acc ρ1) ∧ Rep K (cD c A o'') σ3 H'' G'' ρ5 ∧ S.obj G'' A o'' acc'' ∧ Same G5 G'', fun H'' ⟨G'', acc'', o'', f'', r'', ob'', s''⟩ => ⟨l1.length - (j + 1), by omega, G'', acc'', o'', rfl, hl1, f'', r'', ob'', s''⟩, fun x1 H7 hx1 => ?_⟩
      obtain ⟨G7, ex7, rp7⟩ := hy1 x1 H7 hx1
      have rb := r6.ext ex7
      refine ht1.ok (cD c A o6) (wipe σ3 vs1) H7 G7 (wipeE ρ5 vs1) x1 _ _ _ (rb.wiped vs1) rp7 f6 fun ρ8 σ8 f8 r8 l8 m8 => ⟨?_, ?_⟩
      · rw [l8.wipe]
        exact (like_wipe vs1 σ3).wipe
      refine ⟨cD c A o6, G7, ρ8, fun b ρ4 => b = true ∧ ρ4 = ρ8, noR, r8, ⟨rfl, rfl⟩, fun b ρ9 H9 G9 f9 r9 s9 => ?_, LX.no⟩
      obtain ⟨rfl, rfl⟩ := f9
      rw [if_pos rfl]
      have lk1 : Like vs1 σ3 σ8 := (like_wipe vs1 σ3).trans l8
      have mk1 : Like vs1 ρ5 ρ9 := (like_wipeE vs1 ρ5).trans m8
      refine ⟨cD c A o6, G9, ρ9, _, noR, r9, f8, fun y ρ10 v H10 G10 f10 r10 s10 q10 => ?_, LX.no⟩
      obtain ⟨rfl, hz, f10⟩ := f10
      have s910 := s9.trans s10
      have rr := rb.unwipe r10 lk1 mk1 ok1 s910
      obtain ⟨hD, gD, _⟩ := rr.atD oD
      refine S.adds (S.mono (ex7.g.trans s910) ob6) q10 hz rr.gh hD fun o' ob' => ?_
      exact ⟨G10, acc6 ++ [y], o', f10, rr.setD oD, ob', (s6.trans ex7.g).trans s910⟩
    · have e1 : j = l1.length := by omega
      rw [List.drop_eq_nil_of_le (by omega)] at f6
      refine .inl ⟨w7 (by omega), G6, acc6, o6, f6, ?_, ob6, sG5.trans s6⟩
      exact ra.unwipe r6 lk mk ok ((s4.trans s5).trans s6)
  · rw [List.drop_eq_nil_of_le (by omega)] at f'
    exact .inl ⟨w3 (by omega), k _ _ _ _ _ _ f' ob (r'.atD oD).1 (r'.outD oD) (s1.trans s')⟩
theorem pz_setC2 (S : SKd X K) {elt tg iter tg1 iter1 : Expr} {scope : Scope} {own : List (Str × Nat)} {vs1 : List Nat} {pos : Pos} {Fi Fi1 : DI} {t t1 : TG} {Fg Fg1 : DG} {Fe : DE} {W' : WX} (hN : X.N.Nodup) (hi : PDI K W X tg iter Fi) (ok : BlkOk X.N X.env.scope scope own) (hv : ∀ i ∈ vs1, i ∈ own.map (·.2))
    (hg : ∀ (s : Shared) (H : Hp) (C : Addr) (cl : List (Str × Addr)) (fp : List Addr), PG (X.blk s H scope (compEnvC scope cl C X.env) fp) tg t) (ht : TgOk K t Fg (own.map (·.2)))
    (hi1 : ∀ (s : Shared) (H : Hp) (C : Addr) (cl : List (Str × Addr)) (fp : List Addr), PDI K W' (X.blk s H scope (compEnvC scope cl C X.env) fp) tg1 iter1 Fi1)
    (hg1 : ∀ (s : Shared) (H : Hp) (C : Addr) (cl : List (Str × Addr)) (fp : List Addr), PG (X.blk s H scope (compEnvC scope cl C X.env) fp) tg1 t1) (ht1 : TgOk K t1 Fg1 vs1)
    (he : ∀ (s : Shared) (H : Hp) (C : Addr) (cl : List (Str × Addr)) (fp : List Addr), PD K W' (X.blk s H scope (compEnvC scope cl C X.env) fp) elt Fe) (hc : X.calm = true := by rfl) (hs : ∀ x, foldedSetIterable iter X.env x = pure x := by intro _; rfl) (hs1 : ∀ env x, foldedSetIterable iter1 env x = pure x := by intro _ _; rfl) :
    PZ S W (.SetComp elt [⟨tg, iter, [], 0⟩, ⟨tg1, iter1, [], 0⟩] scope pos) (compZ2 S.ok Fi Fg Fi1 Fg1 Fe (own.map (·.2)) vs1) :=
  PE.imp (pe_setC2 (tt := LT K W' yesT) (tt1 := LT K W' yesT) S.law hc hN hi ok hv hg (fun _ _ _ _ _ => pdts_nil) hi1 hg1 (fun _ _ _ _ _ => pdts_nil) he hs hs1) fun _ _ _ h => LZ.comp2 S ht ht1 hv h
end
section
variable {ok : List D → D → Prop} {Fg Fg1 : DG} {Fi1 : DI} {Fe : DE} {vs vs1 : List Nat} {ρ : Ev} {α : Type}
theorem cmpZ_map (g h : α → D) : ∀ {l : List α} {acc : List D} {Q : List D → Prop}, (∀ a ∈ l, ∀ acc' : List D, acc'.length < acc.length + l.length → ok acc' (h a)) →
    (∀ d ∈ l, ∀ (T : D → Prop), T (h d) → Fg (g d) (wipeE ρ vs) fun ρ1 => Fe ρ1 (fun x ρ3 => ρ3 = ρ1 ∧ T x) noR) → Q (acc ++ l.map h) → cmpZ ok Fg Fe vs ρ (l.map g) acc Q
  | [], acc, Q, _, _, q => by
    rw [List.map_nil, List.append_nil] at q
    exact q
  | d :: l, acc, Q, hok, hs, q => by
    refine hs d List.mem_cons_self (fun x => ok acc x ∧ cmpZ ok Fg Fe vs ρ (l.map g) (acc ++ [x]) Q) ⟨hok d List.mem_cons_self acc (by rw [List.length_cons]; omega), ?_⟩
    refine cmpZ_map g h (fun a ha acc' hl => hok a (List.mem_cons_of_mem _ ha) acc' ?_) (fun a ha => hs a (List.mem_cons_of_mem _ ha)) ?_
    · rw [List.length_append] at hl
      rw [List.length_cons]
      have : acc'.length < acc.length + 1 + l.length := hl
      omega
    · rw [List.append_assoc]
      exact q
theorem cmpZ2_map (g : α → D) (hs : α → List D) : ∀ {l : List α} {acc : List D} {Q : List D → Prop},
    (∀ d ∈ l, ∀ (acc' : List D) (T : List D → Prop), acc'.length + (hs d).length ≤ acc.length + (l.flatMap hs).length → T (acc' ++ hs d) → Fg (g d) (wipeE ρ vs) fun ρ1 => Fi1 ρ1 (fun l' ρ2 => ρ2 = ρ1 ∧ okVs ρ1 vs1 ∧ cmpZ ok Fg1 Fe vs1 ρ1 l' acc' T) noR) → Q (acc ++ l.flatMap hs) → cmpZ2 ok Fg Fi1 Fg1 Fe vs vs1 ρ (l.map g) acc Q
  | [], acc, Q, _, q => by
    rw [List.flatMap_nil, List.append_nil] at q
    exact q
  | d :: l, acc, Q, h, q => by
    refine h d List.mem_cons_self acc (fun acc' => cmpZ2 ok Fg Fi1 Fg1 Fe vs vs1 ρ (l.map g) acc' Q) (by rw [List.flatMap_cons, List.length_append]; omega) ?_
    refine cmpZ2_map g hs (fun a ha acc' T hl ht => h a (List.mem_cons_of_mem _ ha) acc' T ?_ ht) ?_
    · rw [List.length_append] at hl
      rw [List.flatMap_cons, List.length_append]
      omega
    · rw [List.append_assoc, ← List.flatMap_cons]
      exact q
end
end Vf

set_option Elab.async false
set_option linter.all false
set_option maxRecDepth 100000
set_option maxHeartbeats 1000000
/-! steps: places, arrows, for any data -/
namespace Vf
open PySem PySem.Spec PyProof.Rows L2
/-- lengths of sequences, not too long -/
def lenLe (m : Nat) (d : D) : Prop := ∀ l, seqB d = some l → l.length ≤ m
def arePlacesD (d : D) : Bool := match seqB d with
  | some l => !l.isEmpty && ((l.map isNameD).all id && (match strL l with | some zs => decide zs.Nodup | none => false))
  | none => false
theorem isSeq_none {d : D} (h : seqB d = none) : isSeqD d = false := by cases d <;> first | rfl | cases h
theorem isSeq_some {d : D} {l : List D} (h : seqB d = some l) : isSeqD d = true := by cases d <;> first | rfl | cases h
theorem shN_seq {n : Nat} {d : D} {l : List D} (h : shN n d = true) (e : seqB d = some l) : 1 ≤ n ∧ l.length ≤ 1000000 ∧ ∀ x ∈ l, shN (n - 1) x = true := by
  cases d with
  | lst m => cases e; exact shN_lst_inv h
  | tup m => cases e; exact shN_tup_inv h
  | _ => cases e
theorem tru_seq' {d : D} {l : List D} (e : seqB d = some l) : truB d = some (!l.isEmpty) := by
  cases d <;> first | (cases e; rfl) | cases e
theorem names_strs : ∀ {l : List D}, (l.map isNameD).all id = true → ∃ zs : List Str, l = zs.map D.str ∧ zs.all nameB = true
  | [], _ => ⟨[], rfl, rfl⟩
  | d :: l, h => by
    rw [List.map_cons, List.all_cons, Bool.and_eq_true] at h
    obtain ⟨zs, e, q⟩ := names_strs h.2
    cases d with
    | str z => exact ⟨z :: zs, by rw [e, List.map_cons], by rw [List.all_cons, q, Bool.and_true]; exact h.1⟩
    | _ => cases h.1
/-- a text among texts -/
theorem in_strs {ps : List Str} {a : D} : (ps.map D.str).any (fun y => dEq y a) = true ↔ ∃ z, a = .str z ∧ z ∈ ps := by
  rw [List.any_map, List.any_eq_true]
  constructor
  · rintro ⟨z, hz, h⟩
    have h : dEq (.str z) a = true := h
    cases a with
    | str y =>
      rw [eq_dec, decide_eq_true_eq] at h
      exact ⟨y, rfl, h ▸ hz⟩
    | _ => cases h
  · rintro ⟨z, rfl, hz⟩
    exact ⟨z, hz, by show dEq (.str z) (.str z) = true; rw [eq_dec, decide_eq_true rfl]⟩
def arrOk (ps : List Str) (t : Tri) : Bool := decide (t.1 ∈ ps) && (decide (t.2.1 ∈ ps) && decide (0 ≤ t.2.2))
def isArrD (ps : List Str) : D → Bool
  | .tup [a, b, c] => (ps.map D.str).any (fun y => dEq y a) && ((ps.map D.str).any (fun y => dEq y b) && isNumD c)
  | _ => false
theorem isArr_tri {ps : List Str} {d : D} (h : isArrD ps d = true) : ∃ t : Tri, d = triD' t ∧ arrOk ps t = true := by
  unfold isArrD at h
  split at h
  · rename_i a b c
    rw [Bool.and_eq_true, Bool.and_eq_true] at h
    obtain ⟨x, rfl, hx⟩ := in_strs.mp h.1
    obtain ⟨y, rfl, hy⟩ := in_strs.mp h.2.1
    cases c with
    | int n => exact ⟨(x, y, n), rfl, by unfold arrOk; rw [decide_eq_true hx, decide_eq_true hy]; exact h.2.2⟩
    | _ => cases h.2.2
  · cases h
theorem tri_isArr {ps : List Str} {t : Tri} : isArrD ps (triD' t) = arrOk ps t := by
  have e : ∀ z : Str, (ps.map D.str).any (fun y => dEq y (.str z)) = decide (z ∈ ps) := fun z => by
    by_cases h : z ∈ ps
    · rw [decide_eq_true h]
      exact in_strs.mpr ⟨z, rfl, h⟩
    · rw [decide_eq_false h, Bool.eq_false_iff]
      intro y
      obtain ⟨w, ew, hw⟩ := in_strs.mp y
      cases ew
      exact h hw
  show ((ps.map D.str).any (fun y => dEq y (.str t.1)) && ((ps.map D.str).any (fun y => dEq y (.str t.2.1)) && isNumD (.int t.2.2))) = _
  rw [e, e]
  rfl
theorem arrs_tris {ps : List Str} : ∀ {l : List D}, (l.map (isArrD ps)).all id = true → ∃ ts : List Tri, l = ts.map triD' ∧ ts.all (arrOk ps) = true
  | [], _ => ⟨[], rfl, rfl⟩
  | d :: l, h => by
    rw [List.map_cons, List.all_cons, Bool.and_eq_true] at h
    obtain ⟨ts, e, q⟩ := arrs_tris h.2
    obtain ⟨t, rfl, ht⟩ := isArr_tri h.1
    exact ⟨t :: ts, by rw [e, List.map_cons], by rw [List.all_cons, q, ht]; rfl⟩
def areArrsD (ps : List Str) (d : D) : Bool := match seqB d with
  | some l => (l.map (isArrD ps)).all id && (match tris l with | some ts => decide (ts.map fun t => (t.1, t.2.1)).Nodup | none => false)
  | none => false
def pairK (t : Tri) : List Key := [.inr t.1, .inr t.2.1]
theorem pairK_nodup {ts : List Tri} : (ts.map pairK).Nodup ↔ (ts.map fun t => (t.1, t.2.1)).Nodup := by
  induction ts with
  | nil => exact ⟨fun _ => List.nodup_nil, fun _ => List.nodup_nil⟩
  | cons t ts ih =>
    rw [List.map_cons, List.map_cons, List.nodup_cons, List.nodup_cons, ih]
    refine and_congr_left fun _ => not_congr ?_
    rw [List.mem_map, List.mem_map]
    constructor
    · rintro ⟨u, hu, e⟩
      refine ⟨u, hu, ?_⟩
      unfold pairK at e
      injection e with e1 e2
      injection e2 with e2 _
      injection e1 with e1
      injection e2 with e2
      rw [e1, e2]
    · rintro ⟨u, hu, e⟩
      refine ⟨u, hu, ?_⟩
      injection e with e1 e2
      unfold pairK
      rw [e1, e2]
theorem un_dec {α : Type} [DecidableEq α] {xs : List α} {n : Nat} (u : UnlG xs n) : decide ((n : Int) = (xs.length : Int)) = decide xs.Nodup := by
  by_cases h : xs.Nodup
  · rw [decide_eq_true h, decide_eq_true]
    rw [u.2.mpr h]
  · rw [decide_eq_false h, decide_eq_false]
    intro z
    exact h (u.2.mp (by omega))
section
variable {P : Program} {w : World} {K : PySem.W.Frag} {mg : Str → Option Value} {base : Heap} {cs : List Addr}
def arePlacesM : Mc := fun ds P _ => ∃ d n, ds = [d] ∧ shN n d = true ∧ lenLe 4000 d ∧ P (.bl (arePlacesD d))
abbrev nArePlaces : List Str := ["value", "place"]
theorem scArePlaces : FnScope nArePlaces ["value"] (defScope sArePlaces) := ⟨rfl, rfl, rfl, by decide +kernel, rfl, by decide +kernel, by decide +kernel⟩
theorem cal_arePlaces {f : Addr} {fd : FuncData} (F : Df K mg "are_places" sArePlaces ["value"] f fd) (C_is_sequence : Cal0 P w K mg base "is_sequence" 1 1 (isSeqM cs)) (C_is_name : Cal0 P w K mg base "is_name" 1 1 (isNameM cs)) (B : Bt mg) : Cal0 P w K mg base "are_places" 2 1 arePlacesM := by
  refine ⟨f, fd, _, okD F.F scArePlaces rfl (fun cdv A outer s H E hr => ?_), F.g, F.F.kp, F.b⟩
  refine ⟨_, (pds_cons (pds_if (pdt_w (pdw_or (pdt_not (pdt_val (pd_cal C_is_sequence (hr.mono (by decide)) (pda_cons (pd_var 0) pda_nil)))) (pdw_or (pdt_not (pdt_tru rfl (pd_var 0))) (pdw_or1 (pdt_not (pdt_val (pd_blt (do_all rfl rfl) B.all (pda_cons (pd_fr (pf_lc (own := [("place", 1)]) (W' := fun _ _ _ _ => False) scArePlaces.nd (pdi_seq rfl (pd_var 0)) (blkOk_by (N := nArePlaces) (sc := defScope sArePlaces) (by decide +kernel)) (fun _ _ _ _ _ => (pg_name (i := 1) scArePlaces.nd rfl (by first | exact .inl rfl | exact .inr rfl))) (tg_nm 1) (fun _ _ _ _ _ => pdts_nil) (fun _ _ _ _ _ => (pd_cal C_is_name (hr.mono (by decide)) (pda_cons (pd_var 1) pda_nil))))) pda_nil))))))))
      (pds_one (pds_ret pd_bl)) pds_nil)
      (pds_one (pds_ret (pd_cmp (do_eq rfl hr.units) (pd_lset rfl B.len B.set (pd_var 0)) (pd_blt (do_len rfl) B.len (pda_cons (pd_var 0) pda_nil)))))), ?_⟩
  rintro ds P' R _ ⟨d, n, rfl, sh, le, p⟩
  refine ⟨rfl, d, rfl, shN_ty sh, _, rfl, ?_⟩
  unfold arePlacesD at p
  cases e : seqB d with
  | none =>
    rw [e] at p
    rw [isSeq_none e]
    exact iteT (iteT p)
  | some l =>
    rw [e] at p
    obtain ⟨h1, h2, h3⟩ := shN_seq sh e
    have hl := le l e
    rw [isSeq_some e]
    refine iteF ⟨!l.isEmpty, tru_seq' e, (fun s es => by subst es; cases e), ?_⟩
    have p : P' (.bl (!l.isEmpty && ((l.map isNameD).all id && (match strL l with | some zs => decide zs.Nodup | none => false)))) := p
    cases he : l.isEmpty with
    | true =>
      rw [he] at p
      exact iteT (iteT p)
    | false =>
      rw [he] at p
      have p : P' (.bl ((l.map isNameD).all id && (match strL l with | some zs => decide zs.Nodup | none => false))) := p
      refine iteF ⟨l, e, ⟨trivial, trivial⟩, ?_⟩
      refine cmpD_mapD (fun d => .bl (isNameD d)) (by omega) (fun x hx T hT => ⟨rfl, x, rfl, shN_ty (h3 x hx), shN_sm (h3 x hx), rfl, hT⟩) ?_
      refine ⟨_, _, rfl, bls_fun _ _, _, rfl, ?_⟩
      cases ha : (l.map isNameD).all id with
      | false =>
        rw [ha] at p
        exact iteT p
      | true =>
        rw [ha] at p
        obtain ⟨zs, rfl, hz⟩ := names_strs ha
        rw [strL_map] at p
        have p : P' (.bl (decide zs.Nodup)) := p
        rw [List.length_map] at hl
        refine iteF ⟨_, zs, e, strL_map zs, Nat.lt_of_le_of_lt (show zs.length + 1 ≤ 4001 by omega) (by decide), fun m un => ?_⟩
        refine ⟨_, len_seq e, .inl rfl, ?_⟩
        rw [int_dec, List.length_map, un_dec (n := m) un]
        exact p
end
end Vf

set_option Elab.async false
set_option linter.all false
set_option maxRecDepth 100000
set_option maxHeartbeats 1000000
/-! steps: arrows, for any data -/
namespace Vf
open PySem PySem.Spec PyProof.Rows L2
theorem in_seq {n : Nat} {x pl : D} {ps : List Str} (hx : shN n x = true) (e : seqB pl = some (ps.map D.str)) (hp : ∀ z ∈ ps, PyData.strOk z = true ∧ z.length ≤ 1000000) (hl : ps.length ≤ 1000000) (hn : n ≤ 62) : inB x pl = some ((ps.map D.str).any fun y => dEq y x) := by
  have q := inB_sh (n := n) (d := x) (l := ps.map D.str) hx (fun y hy => by
    obtain ⟨z, hz, rfl⟩ := List.mem_map.mp hy
    show (PyData.strOk z && decide (z.length ≤ 1000000)) = true
    rw [(hp z hz).1, decide_eq_true (hp z hz).2]
    rfl) (by rw [List.length_map]; exact hl) hn
  cases pl with
  | lst m => cases e; exact q.1
  | tup m => cases e; exact q.2
  | _ => cases e
/-- places that are texts -/
structure Txts (pl : D) (ps : List Str) : Prop where
  e : seqB pl = some (ps.map D.str)
  ok : ∀ z ∈ ps, PyData.strOk z = true ∧ z.length ≤ 1000000
  len : ps.length ≤ 4000
section
variable {P : Program} {w : World} {K : PySem.W.Frag} {mg : Str → Option Value} {base : Heap} {cs : List Addr}
def isArrM : Mc := fun ds P _ => ∃ d pl n ps, ds = [d, pl] ∧ shN n d = true ∧ n ≤ 60 ∧ Txts pl ps ∧ P (.bl (isArrD ps d))
abbrev nIsArrow : List Str := ["value", "places"]
theorem scIsArrow : FnScope nIsArrow ["value", "places"] (defScope sIsArrow) := ⟨rfl, rfl, rfl, by decide +kernel, rfl, by decide +kernel, by decide +kernel⟩
theorem cal_isArr {f : Addr} {fd : FuncData} (F : Df K mg "is_arrow" sIsArrow ["value", "places"] f fd) (C_is_number : Cal0 P w K mg base "is_number" 2 1 (isNumM cs)) (B : Bt mg) (TC : ClsTab K cs) : Cal0 P w K mg base "is_arrow" 3 2 isArrM := by
  refine ⟨f, fd, _, okD F.F scIsArrow rfl (fun cdv A outer s H E hr => ?_), F.g, F.F.kp, F.b⟩
  refine ⟨_, (pds_cons (pds_if (pdt_w (pdw_or (pdt_not (pdt_val (pd_blt (do_isi rfl TC) B.isinstance (pda_cons (pd_var 0) (pda_cons (pd_con (pe_bltn (v := .ty "tuple") (by rfl) B.tuple (by decide +kernel) rfl) (fun _ => rfl) (d := .ty "tuple")) pda_nil))))) (pdw_or1 (pdt_cmp (do_ne rfl hr.units) (pd_blt (do_len rfl) B.len (pda_cons (pd_var 0) pda_nil)) pd_int))))
      (pds_one (pds_ret pd_bl)) pds_nil)
      (pds_one (pds_ret (pd_and (pd_cmp (do_in rfl (u65 hr)) (pd_ix (do_ix rfl) (pd_var 0) pd_int) (pd_var 1)) (pd_and (pd_cmp (do_in rfl (u65 hr)) (pd_ix (do_ix rfl) (pd_var 0) pd_int) (pd_var 1)) (pd_one (pd_cal C_is_number (hr.mono (by decide)) (pda_cons (pd_ix (do_ix rfl) (pd_var 0) pd_int) pda_nil)))))))), ?_⟩
  rintro ds P' R _ ⟨d, pl, n, ps, rfl, sh, hn, T, p⟩
  refine ⟨_, one_tup (shN_ty sh), _, rfl, ?_⟩
  cases d with
  | tup l =>
    obtain ⟨h1, h2, h3⟩ := shN_tup_inv sh
    refine iteF ⟨l.length, rfl, .inl rfl, _, rfl, ?_⟩
    rw [int_dec]
    by_cases hl : l.length = 3
    · obtain ⟨a, b, c, rfl⟩ := three hl
      have ha := h3 a (by simp)
      have hb := h3 b (by simp)
      have hc := h3 c (by simp)
      have hz : ps.length ≤ 1000000 := by have := T.len; omega
      refine iteF ⟨a, atI_nat (j := 0) rfl, _, in_seq ha T.e T.ok hz (by omega), _, rfl, ?_⟩
      have p : P' (.bl ((ps.map D.str).any (fun y => dEq y a) && ((ps.map D.str).any (fun y => dEq y b) && isNumD c))) := p
      cases e1 : (ps.map D.str).any (fun y => dEq y a) with
      | false =>
        rw [e1] at p
        exact iteF p
      | true =>
        rw [e1] at p
        refine iteT ⟨b, atI_nat (j := 1) rfl, _, in_seq hb T.e T.ok hz (by omega), _, rfl, ?_⟩
        cases e2 : (ps.map D.str).any (fun y => dEq y b) with
        | false =>
          rw [e2] at p
          exact iteF p
        | true =>
          rw [e2] at p
          exact iteT ⟨c, atI_nat (j := 2) rfl, rfl, c, rfl, shN_ty hc, p⟩
    · rw [decide_eq_false (by omega)]
      have e : isArrD ps (.tup l) = false := by
        unfold isArrD
        split
        · rename_i q
          cases q
          exact absurd rfl hl
        · rfl
      rw [e] at p
      exact iteT p
  | _ => exact iteT (iteT p)
def areArrsM : Mc := fun ds P _ => ∃ d pl n ps, ds = [d, pl] ∧ shN n d = true ∧ n ≤ 60 ∧ lenLe 60 d ∧ Txts pl ps ∧ P (.bl (areArrsD ps d))
abbrev nAreArrows : List Str := ["value", "places", "arrow"]
theorem scAreArrows : FnScope nAreArrows ["value", "places"] (defScope sAreArrows) := ⟨rfl, rfl, rfl, by decide +kernel, rfl, by decide +kernel, by decide +kernel⟩
theorem cal_areArrs {f : Addr} {fd : FuncData} (F : Df K mg "are_arrows" sAreArrows ["value", "places"] f fd) (C_is_sequence : Cal0 P w K mg base "is_sequence" 1 1 (isSeqM cs)) (C_is_arrow : Cal0 P w K mg base "is_arrow" 3 2 isArrM) (B : Bt mg) : Cal0 P w K mg base "are_arrows" 4 2 areArrsM := by
  refine ⟨f, fd, _, okD F.F scAreArrows rfl (fun cdv A outer s H E hr => ?_), F.g, F.F.kp, F.b⟩
  have hu8 : (A.deeper (envOfC "are_arrows" (defScope sAreArrows) s.heap.objs.size f cdv)).units + 8 < cLine := by
    have := hr.units
    omega
  refine ⟨_, (pds_cons (pds_if (pdt_w (pdw_or (pdt_not (pdt_val (pd_cal C_is_sequence (hr.mono (by decide)) (pda_cons (pd_var 0) pda_nil)))) (pdw_or1 (pdt_not (pdt_val (pd_blt (do_all rfl rfl) B.all (pda_cons (pd_fr (pf_lc (own := [("arrow", 2)]) (W' := fun _ _ _ _ => False) scAreArrows.nd (pdi_seq rfl (pd_var 0)) (blkOk_by (N := nAreArrows) (sc := defScope sAreArrows) (by decide +kernel)) (fun _ _ _ _ _ => (pg_name (i := 2) scAreArrows.nd rfl (by first | exact .inl rfl | exact .inr rfl))) (tg_nm 2) (fun _ _ _ _ _ => pdts_nil) (fun _ _ _ _ _ => (pd_cal C_is_arrow (hr.mono (by decide)) (pda_cons (pd_var 2) (pda_cons (pd_var 1) pda_nil)))))) pda_nil)))))))
      (pds_one (pds_ret pd_bl)) pds_nil)
      (pds_one (pds_ret (pd_cmp (do_eq rfl hr.units) (pd_lenZt rfl hu8 B.len (pz_setC (setTs _ K rfl hu8) (own := [("arrow", 2)]) (W' := fun _ _ _ _ => False) scAreArrows.nd (pdi_seq rfl (pd_var 0)) (blkOk_by (N := nAreArrows) (sc := defScope sAreArrows) (by decide +kernel)) (fun _ _ _ _ _ => (pg_name (i := 2) scAreArrows.nd rfl (by first | exact .inl rfl | exact .inr rfl))) (tg_nm 2) (fun _ _ _ _ _ => (pd_tup (pda_cons (pd_ix (do_ix rfl) (pd_var 2) pd_int) (pda_cons (pd_ix (do_ix rfl) (pd_var 2) pd_int) pda_nil)))))) (pd_blt (do_len rfl) B.len (pda_cons (pd_var 0) pda_nil)))))), ?_⟩
  rintro ds P' R _ ⟨d, pl, n, ps, rfl, sh, hn, le, T, p⟩
  refine ⟨rfl, d, rfl, shN_ty sh, _, rfl, ?_⟩
  unfold areArrsD at p
  cases e : seqB d with
  | none =>
    rw [e] at p
    rw [isSeq_none e]
    exact iteT (iteT p)
  | some l =>
    rw [e] at p
    obtain ⟨h1, h2, h3⟩ := shN_seq sh e
    have hl := le l e
    rw [isSeq_some e]
    have p : P' (.bl ((l.map (isArrD ps)).all id && (match tris l with | some ts => decide (ts.map fun t => (t.1, t.2.1)).Nodup | none => false))) := p
    refine iteF ⟨l, e, ⟨trivial, trivial⟩, ?_⟩
    refine cmpD_mapD (fun d => .bl (isArrD ps d)) (by omega) (fun x hx X hX => ⟨rfl, x, pl, n - 1, ps, rfl, h3 x hx, by omega, T, rfl, hX⟩) ?_
    refine ⟨_, _, rfl, bls_fun _ _, _, rfl, ?_⟩
    cases ha : (l.map (isArrD ps)).all id with
    | false =>
      rw [ha] at p
      exact iteT p
    | true =>
      rw [ha] at p
      obtain ⟨ts, rfl, hz⟩ := arrs_tris ha
      rw [tris_map] at p
      have p : P' (.bl (decide (ts.map fun t => (t.1, t.2.1)).Nodup)) := p
      rw [List.length_map] at hl
      refine iteF ⟨_, e, ⟨trivial, trivial⟩, ?_⟩
      refine cmpZ_map triD' (fun t => keysD (pairK t)) (fun t ht acc' hacc => ⟨⟨_, rfl⟩, by rw [List.length_nil] at hacc; omega⟩) (fun t ht X hX => ?_) ?_
      · exact ⟨_, atI_nat (j := 0) rfl, _, atI_nat (j := 1) rfl, (by show 2 ≤ sizeLine; decide), rfl, hX⟩
      · intro kss m ek un
        have ek : kss = ts.map pairK := by
          have inj : ∀ (a b : List (List Key)), a.map keysD = b.map keysD → a = b := by
            intro a
            induction a with
            | nil => intro b h; cases b with | nil => rfl | cons _ _ => cases h
            | cons x a ih =>
              intro b h
              cases b with
              | nil => cases h
              | cons y b =>
                rw [List.map_cons, List.map_cons] at h
                injection h with h1 h2
                have hk : ∀ (u v : List Key), u.map keyD = v.map keyD → u = v := by
                  intro u
                  induction u with
                  | nil => intro v h; cases v with | nil => rfl | cons _ _ => cases h
                  | cons s u ih' =>
                    intro v h
                    cases v with
                    | nil => cases h
                    | cons r v =>
                      rw [List.map_cons, List.map_cons] at h
                      injection h with q1 q2
                      rw [ih' v q2]
                      cases s <;> cases r <;> first | (cases q1; rfl) | cases q1
                unfold keysD at h1
                injection h1 with h1
                rw [hk x y h1, ih b h2]
          refine inj _ _ ?_
          rw [← ek, List.nil_append, List.map_map]
          rfl
        subst ek
        refine ⟨_, len_seq e, .inl rfl, ?_⟩
        have un' : UnlG (ts.map fun t => (t.1, t.2.1)) m := by
          refine ⟨by have := un.1; rw [List.length_map] at this ⊢; exact this, ?_⟩
          rw [← pairK_nodup, ← un.2, List.length_map, List.length_map]
        have q := un_dec un'
        rw [List.length_map] at q
        rw [int_dec, List.length_map, q]
        exact p
end
end Vf

set_option Elab.async false
set_option linter.all false
set_option maxRecDepth 100000
set_option maxHeartbeats 1000000
/-! steps made, by data -/
namespace Vf
open PySem PySem.Spec PyProof.Rows L2
section
variable {P : Program} {w : World} {K : PySem.W.Frag} {mg : Str → Option Value} {base : Heap} {cs : List Addr}
theorem FunD.ok0 {x qual : Str} {params : Arguments} {body : List Stmt} {scope : Scope} {dvs : List V} {kws : List (Str × V)} {f : Addr} {fd : FuncData} {N ps : List Str} {k : Nat} {sp : Sp} (F : FunD K x qual params body scope dvs kws f fd) (S : FnScope N ps scope) (len : ∀ vs H Q E, sp vs H Q E → vs.length = ps.length)
    (hbody : ∀ (cdv : Value) (A : Around) (outer : List Env) (s : Shared) (H : Hp) (vs : List V) (Q : VK) (E : XK), Room k (A.deeper (envOfC qual scope s.heap.objs.size f cdv)) → sp vs H Q E →
      ∃ t, PSs (cxOf CX0 P w K mg base N qual scope f cdv A outer s H E).nox body t ∧ t { nx := fun _ H' => Q .non H', rt := Q } (start N vs) H) : FnOk P w K mg base CX0 (k + 1) f fd ps sp :=
  F.ok S len fun cdv A outer s H vs Q E hr hsp => by
    obtain ⟨t, h, q⟩ := hbody cdv A outer s H vs Q E hr hsp
    exact ⟨t, h.nox, q⟩

/-- a def with defaults, where it stands -/
structure DfD (K : PySem.W.Frag) (x qual : Str) (st : Stmt) (ps : List Str) (dvs : List V) (f : Addr) (d : FuncData) : Prop where
  F : FunD K x qual (defArgs st) (defBody st) (defScope st) dvs [] f d
  b : Binds K d ps []
  bd : ∃ ds, Vals dvs ds ∧ Binds K d ps ds
theorem okIF {x qual : Str} {st : Stmt} {f C : Addr} {fd : FuncData} {N ps : List Str} {dvs : List V} {k n : Nat} {M : Mi} (F : FunD K x qual (defArgs st) (defBody st) (defScope st) dvs [] f fd) (S : FnScope N ps (defScope st)) (hn : n + 1 = ps.length)
    (hbody : ∀ (cdv : Value) (A : Around) (outer : List Env) (s : Shared) (H : Hp) (E : XK), Room k (A.deeper (envOfC qual (defScope st) s.heap.objs.size f cdv)) →
      ∃ Fb, PDSs K (fun cls d _ H => E cls d H) (cxOf CX0 P w K mg base N qual (defScope st) f cdv A outer s H E).nox (defBody st) Fb ∧ ∀ y dx ds P R, ds.length = n → M ds P R → Fb (evIn y dx C ds N) (endIn y dx C P R)) : FnOk P w K mg base CX0 (k + 1) f fd ps (spI K C n M) := by
  refine FunD.ok0 F S (fun vs H Q E ⟨G, x, dx, us, ds, P, R, e, _, _, sg, ra, hl, _⟩ => by rw [e, List.length_cons, ra.len, hl, hn]) fun cdv A outer s H vs Q E hr h => ?_
  obtain ⟨Fb, h1, h2⟩ := hbody cdv A outer s H E hr
  exact init_go h1 h2 h
/-- a row that makes a step -/
structure GoodRow (t : Str) (ps : List Str) (ts : List Tri) : Prop where
  nm : nameB t = true
  ne : ps ≠ []
  pn : ∀ z ∈ ps, nameB z = true
  pd : ps.Nodup
  pl : ps.length ≤ 4000
  ar : ∀ q ∈ ts, arrOk ps q = true
  ad : (ts.map fun q => (q.1, q.2.1)).Nodup
  al : ts.length ≤ 60
  ac : ∀ q ∈ ts, q.2.2 < 10 ^ 200
theorem GoodRow.cost {t : Str} {ps : List Str} {ts : List Tri} (g : GoodRow t ps ts) {q : Tri} (h : q ∈ ts) : q.1 ∈ ps ∧ q.2.1 ∈ ps ∧ 0 ≤ q.2.2 := by
  have := g.ar q h
  unfold arrOk at this
  rw [Bool.and_eq_true, Bool.and_eq_true, decide_eq_true_eq, decide_eq_true_eq, decide_eq_true_eq] at this
  exact this
theorem GoodRow.perm {t : Str} {ps ps' : List Str} {ts ts' : List Tri} (g : GoodRow t ps ts) (hp : ps'.Perm ps) (ht : ts'.Perm ts) : GoodRow t ps' ts' := by
  refine ⟨g.nm, fun e => ?_, fun z h => g.pn z (hp.mem_iff.mp h), hp.nodup_iff.mpr g.pd, by rw [hp.length_eq]; exact g.pl, fun q h => ?_, ?_, by rw [ht.length_eq]; exact g.al, fun q h => g.ac q (ht.mem_iff.mp h)⟩
  · subst e
    exact g.ne (hp.symm.eq_nil)
  · have := g.cost (ht.mem_iff.mp h)
    unfold arrOk
    rw [decide_eq_true (hp.mem_iff.mpr this.1), decide_eq_true (hp.mem_iff.mpr this.2.1), decide_eq_true this.2.2]
    rfl
  · exact (ht.map _).nodup_iff.mpr g.ad
theorem sh_of_seq {n : Nat} {d : D} {l : List D} (e : seqB d = some l) (h : ∀ x ∈ l, shN n x = true) (hl : l.length ≤ 1000000) : shN (n + 1) d = true := by
  cases d with
  | lst m => cases e; exact shN_lst h hl
  | tup m => cases e; exact shN_tup h hl
  | _ => cases e
theorem names_all {zs : List Str} (h : ∀ z ∈ zs, nameB z = true) : ((zs.map D.str).map isNameD).all id = true := by
  rw [List.all_eq_true]
  intro b hb
  obtain ⟨d, hd, rfl⟩ := List.mem_map.mp hb
  obtain ⟨z, hz, rfl⟩ := List.mem_map.mp hd
  exact h z hz
theorem GoodRow.places {t : Str} {ps : List Str} {ts : List Tri} (g : GoodRow t ps ts) {pl : D} (e : seqB pl = some (ps.map D.str)) : shN 1 pl = true ∧ lenLe 4000 pl ∧ arePlacesD pl = true := by
  refine ⟨sh_of_seq e (fun x hx => ?_) (by rw [List.length_map]; have := g.pl; omega), fun l h => ?_, ?_⟩
  · obtain ⟨z, hz, rfl⟩ := List.mem_map.mp hx
    exact nameB_sh (g.pn z hz)
  · rw [e] at h
    cases h
    rw [List.length_map]
    exact g.pl
  · unfold arePlacesD
    rw [e]
    have h1 : (!(ps.map D.str).isEmpty) = true := by
      cases hps : ps with
      | nil => exact absurd hps g.ne
      | cons _ _ => rfl
    show (!(ps.map D.str).isEmpty && (((ps.map D.str).map isNameD).all id && (match strL (ps.map D.str) with | some zs => decide zs.Nodup | none => false))) = true
    rw [h1, names_all g.pn, strL_map]
    exact decide_eq_true g.pd
theorem GoodRow.txts {t : Str} {ps : List Str} {ts : List Tri} (g : GoodRow t ps ts) {pl : D} (e : seqB pl = some (ps.map D.str)) : Txts pl ps := ⟨e, fun z hz => shN_str (n := 0) (nameB_sh (g.pn z hz)), g.pl⟩
theorem GoodRow.arrows {t : Str} {ps : List Str} {ts : List Tri} (g : GoodRow t ps ts) {al : D} (e : seqB al = some (ts.map triD')) : shN 2 al = true ∧ lenLe 60 al ∧ areArrsD ps al = true := by
  refine ⟨sh_of_seq e (fun x hx => ?_) (by rw [List.length_map]; have := g.al; omega), fun l h => ?_, ?_⟩
  · obtain ⟨q, hq, rfl⟩ := List.mem_map.mp hx
    have := g.cost hq
    exact sh_tri ⟨g.pn _ this.1, g.pn _ this.2.1⟩
  · rw [e] at h
    cases h
    rw [List.length_map]
    exact g.al
  · unfold areArrsD
    rw [e]
    show (((ts.map triD').map (isArrD ps)).all id && (match tris (ts.map triD') with | some ts => decide (ts.map fun t => (t.1, t.2.1)).Nodup | none => false)) = true
    rw [tris_map]
    have h1 : ((ts.map triD').map (isArrD ps)).all id = true := by
      rw [List.all_eq_true]
      intro b hb
      obtain ⟨d, hd, rfl⟩ := List.mem_map.mp hb
      obtain ⟨q, hq, rfl⟩ := List.mem_map.mp hd
      show isArrD ps (triD' q) = true
      rw [tri_isArr]
      exact g.ar q hq
    rw [h1]
    exact decide_eq_true g.ad
/-- a step as data -/
abbrev stepNs : List Str := ["name", "places", "arrows"]
def stepD (C : Addr) (r : Row) : D := .ins C stepNs [.str r.1, .tup (r.2.1.map .str), .tup (r.2.2.map triD')]
structure StepC (K : PySem.W.Frag) (mg : Str → Option Value) (C : Addr) : Prop where
  g : mg "Step" = some (.ref C)
  cl : Cls K C
  f_name : NoAttr K C "name"
  f_places : NoAttr K C "places"
  f_arrows : NoAttr K C "arrows"
def stepInitM : Mi := fun ds P _ => ∃ t pl al ps ts, ds = [.str t, pl, al] ∧ seqB pl = some (ps.map D.str) ∧ seqB al = some (ts.map triD') ∧ GoodRow t ps ts ∧
  ∀ ps' ts', ps'.Perm ps → Asc ltS ps' → ts'.Perm ts → Asc ltT ts' → P stepNs [.str t, .tup (ps'.map .str), .tup (ts'.map triD')]
abbrev nStepInit : List Str := ["self", "name", "places", "arrows"]
theorem scStepInit : FnScope nStepInit ["self", "name", "places", "arrows"] (defScope sStepInit) := ⟨rfl, rfl, rfl, by decide +kernel, rfl, by decide +kernel, by decide +kernel⟩
theorem cal_step {C f : Addr} {fd : FuncData} {dvs : List V} (F : DfD K "__init__" "Step.__init__" sStepInit ["self", "name", "places", "arrows"] dvs f fd) (T : StepC K mg C) (Mm : Mk K C f) (C_is_name : Cal0 P w K mg base "is_name" 1 1 (isNameM cs)) (C_are_places : Cal0 P w K mg base "are_places" 2 1 arePlacesM) (C_are_arrows : Cal0 P w K mg base "are_arrows" 4 2 areArrsM) (B : Bt mg) : CalI P w K mg base "Step" C 5 3 stepInitM := by
  refine ⟨f, fd, _, okIF F.F scStepInit rfl (fun cdv A outer s H E hr => ?_), Mm, T.g, F.b⟩
  refine ⟨_, (pds_cons (pds_if (pdt_not (pdt_val (pd_cal C_is_name (hr.mono (by decide)) (pda_cons (pd_var 1) pda_nil))))
      (pds_one pd_never) pds_nil)
      (pds_cons (pds_if (pdt_not (pdt_val (pd_cal C_are_places (hr.mono (by decide)) (pda_cons (pd_var 2) pda_nil))))
      (pds_one pd_never) pds_nil)
      (pds_cons (pds_if (pdt_not (pdt_val (pd_cal C_are_arrows (hr.mono (by decide)) (pda_cons (pd_var 3) (pda_cons (pd_var 2) pda_nil)))))
      (pds_one pd_never) pds_nil)
      (pds_cons (pds_fld (i := 0) rfl T.cl T.f_name (pv 0) (pd_var 1))
      (pds_cons (pds_fld (i := 0) rfl T.cl T.f_places (pv 0) (pd_bty (do_tuple rfl) B.tuple (pda_cons (pd_blt (do_sort rfl) B.sorted (pda_cons (pd_var 2) pda_nil)) pda_nil)))
      (pds_one (pds_fld (i := 0) rfl T.cl T.f_arrows (pv 0) (pd_bty (do_tuple rfl) B.tuple (pda_cons (pd_blt (do_sort rfl) B.sorted (pda_cons (pd_var 3) pda_nil)) pda_nil))))))))), ?_⟩
  rintro y dx ds P' R _ ⟨t, pl, al, ps, ts, rfl, e1, e2, g, k⟩
  obtain ⟨p1, p2, p3⟩ := g.places e1
  obtain ⟨a1, a2, a3⟩ := g.arrows e2
  refine ⟨rfl, .str t, rfl, rfl, shN_sm (nameB_sh (n := 0) g.nm), _, rfl, ?_⟩
  show if (!nameB t) = true then _ else _
  rw [g.nm]
  refine iteF ⟨rfl, pl, 1, rfl, p1, p2, _, rfl, ?_⟩
  rw [p3]
  refine iteF ⟨rfl, al, pl, 2, ps, rfl, a1, by decide, a2, g.txts e1, _, rfl, ?_⟩
  rw [a3]
  refine iteF ⟨y, dx, [], [], rfl, by decide, by decide, ?_⟩
  refine ⟨_, e1, .inl ⟨ps, strL_map ps, fun ps' pp pa => ?_⟩⟩
  refine ⟨_, rfl, y, dx, _, _, rfl, by decide, by decide, ?_⟩
  refine ⟨_, e2, .inr ⟨ts, tris_map ts, fun ts' tp ta => ?_⟩⟩
  refine ⟨_, rfl, y, dx, _, _, rfl, by decide, by decide, ?_⟩
  exact ⟨_, _, rfl, k ps' ts' pp pa tp ta⟩
end
end Vf

set_option Elab.async false
set_option linter.all false
set_option maxRecDepth 100000
set_option maxHeartbeats 1000000
/-! steps: what an arrow takes; their texts -/
namespace Vf
open PySem PySem.Spec PyProof.Rows L2
/-- a method, where it stands -/
structure DfM (K : PySem.W.Frag) (C : Addr) (m qual : Str) (st : Stmt) (ps : List Str) (f : Addr) (d : FuncData) : Prop where
  F : Fun K m qual st f d
  b : Binds K d ps []
  cl : Cls K C
  m : Meth K C m f
/-- the arrow from a to b, the first one told -/
def lossB (a b : D) : List Tri → Option Int
  | [] => none
  | t :: ts => if (dEq (.str t.1) a && dEq (.str t.2.1) b) = true then some t.2.2 else lossB a b ts
/-- names of arrows are texts that may be compared -/
def trisOk (ts : List Tri) : Prop := ∀ t ∈ ts, nameB t.1 = true ∧ nameB t.2.1 = true
theorem GoodRow.trisOk {t : Str} {ps : List Str} {ts : List Tri} (g : GoodRow t ps ts) : trisOk ts := fun q h => by
  have := g.cost h
  exact ⟨g.pn _ this.1, g.pn _ this.2.1⟩
section
variable {P : Program} {w : World} {K : PySem.W.Frag} {mg : Str → Option Value} {base : Heap} {cs : List Addr}
def lossM (C : Addr) : Mc := fun ds P _ => ∃ r a b n, ds = [stepD C r, a, b] ∧ trisOk r.2.2 ∧ shN n a = true ∧ shN n b = true ∧ n ≤ 60 ∧ P (optD .int (lossB a b r.2.2))
abbrev nStepLoss : List Str := ["self", "start", "end", "one", "other", "less"]
theorem scStepLoss : FnScope nStepLoss ["self", "start", "end"] (defScope sStepLoss) := ⟨rfl, rfl, rfl, by decide +kernel, rfl, by decide +kernel, by decide +kernel⟩
theorem cal_stepLoss {C f : Addr} {fd : FuncData} (F : DfM K C "loss" "Step.loss" sStepLoss ["self", "start", "end"] f fd) (T : StepC K mg C) : CalM P w K mg base C "loss" 1 3 (lossM C) := by
  refine ⟨f, fd, _, okD F.F scStepLoss rfl (fun cdv A outer s H E hr => ?_), F.cl, F.m, F.b⟩
  refine ⟨_, (pds_cons (pds_for PassesOwn.never (pdi_seq rfl (pd_fld rfl T.cl T.f_arrows (pd_var 0))) (pg_tup rfl (pgs_cons (pg_name (i := 3) scStepLoss.nd rfl (by first | exact .inl rfl | exact .inr rfl)) (pgs_cons (pg_name (i := 4) scStepLoss.nd rfl (by first | exact .inl rfl | exact .inr rfl)) (pgs_cons (pg_name (i := 5) scStepLoss.nd rfl (by first | exact .inl rfl | exact .inr rfl)) pgs_nil)))) (tg_tp (tgs_cons (tg_nm 3) (tgs_cons (tg_nm 4) (tgs_cons (tg_nm 5) tgs_nil))))
      (pds_one (pds_if (pdt_w (pdw_and (pdt_cmp (do_eq rfl hr.units) (pd_var 3) (pd_var 1)) (pdw_and1 (pdt_cmp (do_eq rfl hr.units) (pd_var 4) (pd_var 2)))))
      (pds_one (pds_ret (pd_var 5))) pds_nil)))
      (pds_one (pds_ret pd_non))), ?_⟩
  rintro ds P' R _ ⟨r, a, b, n, rfl, ok, ha, hb, hn, p⟩
  refine ⟨_, _, _, rfl, rfl, _, rfl, ?_⟩
  refine loopD_inv (fun l ρ => ∃ (ts : List Tri) (s3 s4 s5 : Sl), l = ts.map triD' ∧ ρ = [.val (stepD C r), .val a, .val b, s3, s4, s5] ∧ trisOk ts ∧ lossB a b ts = lossB a b r.2.2) ?_ ?_ ⟨r.2.2, .no, .no, .no, rfl, rfl, ok, rfl⟩
  · rintro ρ ⟨ts, s3, s4, s5, el, rfl, _, e⟩
    cases ts with
    | cons t ts => cases el
    | nil =>
      rw [← e] at p
      exact p
  · rintro d l ρ X hX ⟨ts, s3, s4, s5, el, rfl, ok, e⟩
    cases ts with
    | nil => cases el
    | cons t ts =>
      rw [List.map_cons] at el
      injection el with e1 e2
      subst e1 e2
      obtain ⟨o1, o2⟩ := ok t List.mem_cons_self
      refine ⟨_, rfl, rfl, rfl, okEq_sh (nameB_sh (n := 0) o1) ha (by decide) (by omega), _, rfl, ?_⟩
      have e : (if (dEq (.str t.1) a && dEq (.str t.2.1) b) = true then some t.2.2 else lossB a b ts) = lossB a b r.2.2 := e
      cases c1 : dEq (.str t.1) a with
      | false =>
        rw [c1] at e
        refine iteF (iteF (hX _ ⟨ts, _, _, _, rfl, rfl, fun t h => ok t (List.mem_cons_of_mem _ h), e⟩))
      | true =>
        refine iteT ⟨okEq_sh (nameB_sh (n := 0) o2) hb (by decide) (by omega), _, rfl, ?_⟩
        rw [c1] at e
        cases c2 : dEq (.str t.2.1) b with
        | false =>
          rw [c2] at e
          exact iteF (hX _ ⟨ts, _, _, _, rfl, rfl, fun t h => ok t (List.mem_cons_of_mem _ h), e⟩)
        | true =>
          rw [c2] at e
          have e : some t.2.2 = lossB a b r.2.2 := e
          rw [← e] at p
          exact iteT p
abbrev nStepStr : List Str := ["self", "words", "start", "end", "less"]
theorem scStepStr : FnScope nStepStr ["self"] (defScope sStepStr) := ⟨rfl, rfl, rfl, by decide +kernel, rfl, by decide +kernel, by decide +kernel⟩
def stepStrM (C : Addr) : Mc := fun ds P _ => ∃ r, ds = [stepD C r] ∧ GoodRow r.1 r.2.1 r.2.2 ∧ P (.str (stepS r.1 r.2.1 r.2.2))
theorem ok_stepStr {C f : Addr} {fd : FuncData} (F : Fun K "__str__" "Step.__str__" sStepStr f fd) (T : StepC K mg C) : FnOk P w K mg base CX0 1 f fd ["self"] (spD K 1 (stepStrM C)) := by
  refine okD F scStepStr rfl (fun cdv A outer s H E hr => ?_)
  refine ⟨_, (pds_cons (pds_set (i := 1) scStepStr.nd (pd_lst (pda_cons (pd_fld rfl T.cl T.f_name (pd_var 0)) (pda_cons pd_str (pda_star rfl (pd_fld rfl T.cl T.f_places (pd_var 0)) pda_nil)))))
      (pds_cons (pds_if (pdt_tru rfl (pd_fld rfl T.cl T.f_arrows (pd_var 0)))
      (pds_one (pds_set (i := 1) scStepStr.nd (pd_lst (pda_star rfl (pd_var 1) (pda_cons pd_str (pda_cons (pd_join rfl pd_str (pd_fr (pf_lc (t := gTup K 3 (gCons (gName 2) (gCons (gName 3) (gCons (gName 4) gNil)))) (own := [("start", 2), ("end", 3), ("less", 4)]) (W' := fun _ _ _ _ => False) scStepStr.nd (pdi_seq rfl (pd_fld rfl T.cl T.f_arrows (pd_var 0))) (blkOk_by (N := nStepStr) (sc := defScope sStepStr) (by decide +kernel)) (fun _ _ _ _ _ => (pg_tup rfl (pgs_cons (pg_name (i := 2) scStepStr.nd rfl (by first | exact .inl rfl | exact .inr rfl)) (pgs_cons (pg_name (i := 3) scStepStr.nd rfl (by first | exact .inl rfl | exact .inr rfl)) (pgs_cons (pg_name (i := 4) scStepStr.nd rfl (by first | exact .inl rfl | exact .inr rfl)) pgs_nil))))) (tg_tp (tgs_cons (tg_nm 2) (tgs_cons (tg_nm 3) (tgs_cons (tg_nm 4) tgs_nil)))) (fun _ _ _ _ _ => pdts_nil) (fun _ _ _ _ _ => (pd_fstr (.cons (pd_fmt (pd_var 2)) (.cons pd_str (.cons (pd_fmt (pd_var 3)) (.cons pd_str (.cons (pd_fmt (pd_var 4)) .nil)))))))))) pda_nil)))))) pds_nil)
      (pds_one (pds_ret (pd_join rfl pd_str (pd_var 1)))))), ?_⟩
  rintro ds P' R _ ⟨⟨t, ps, ts⟩, rfl, g, p⟩
  have g : GoodRow t ps ts := g
  have p : P' (.str (stepS t ps ts)) := p
  have tlen := (nameB_facts g.nm).2.1
  have pl := g.pl
  have p6 : ∀ z ∈ ps, z.length ≤ 6 := fun z hz => (nameB_facts (g.pn z hz)).2.1
  have la : ("at" : Str).length = 2 := by decide +kernel
  have lg : ("go" : Str).length = 2 := by decide +kernel
  have l1 : (" " : Str).length = 1 := by decide +kernel
  have sp : (ps.map (·.length)).sum ≤ 24000 := by
    have := sum_le (l := ps.map (·.length)) (m := 6) (fun x hx => by
      obtain ⟨z, hz, rfl⟩ := List.mem_map.mp hx
      exact p6 z hz)
    rw [List.length_map] at this
    omega
  refine ⟨_, _, _, rfl, rfl, _, _, _, rfl, rfl, _, rfl, ?_, ?_⟩
  · show ((ps.map D.str ++ []).length + 1 + 1) ≤ sizeLine
    rw [List.append_nil, List.length_map]
    exact big_le (by omega)
  have hw : strL (.str t :: .str "at" :: (ps.map D.str ++ [])) = some (t :: "at" :: ps) := by
    rw [List.append_nil]
    exact strL_map (t :: "at" :: ps)
  refine ⟨_, _, _, rfl, rfl, !(ts.map triD').isEmpty, rfl, (fun s e => nomatch e), ?_⟩
  by_cases hts : ts = []
  · subst hts
    refine iteF ⟨⟨_, rfl⟩, " ", _, t :: "at" :: ps, rfl, rfl, hw, ?_, ?_⟩
    · rw [List.map_cons, List.map_cons, List.sum_cons, List.sum_cons, List.length_cons, List.length_cons, l1, la]
      omega
    · have e : stepS t ps [] = Txt.join " " (t :: "at" :: ps) := by
        unfold stepS
        rw [if_pos rfl, List.append_nil]
      rw [e] at p
      exact p
  · have he : (!(ts.map triD').isEmpty) = true := by
      cases ts with
      | nil => exact absurd rfl hts
      | cons _ _ => rfl
    rw [he]
    have nums : ∀ q ∈ ts, q.2.2.natAbs.log2 < 1920 ∧ (numS q.2.2).length ≤ 200 := fun q hq => by
      have h0 := (g.cost hq).2.2
      have h1 := g.ac q hq
      obtain ⟨n, en⟩ := Int.eq_ofNat_of_zero_le h0
      rw [en] at h1 ⊢
      have h1 : n < 10 ^ 200 := by
        have : ((n : Nat) : Int) < ((10 ^ 200 : Nat) : Int) := by rw [Int.natCast_pow]; exact h1
        exact Int.ofNat_lt.mp this
      constructor
      · rw [Int.natAbs_natCast]
        by_cases z : n = 0
        · subst z
          decide
        · rw [Nat.log2_lt z]
          exact Nat.lt_of_lt_of_le h1 (by decide +kernel)
      · rw [len_tl]
        show (TL.tl (Str.ofString (toString ((n : Nat) : Int)))).length ≤ 200
        rw [TL.tl_num]
        exact TL.numL_len (by decide) h1
    have rl : ∀ q ∈ ts, (rowS q).length ≤ 214 := fun q hq => by
      have h := g.cost hq
      have a1 := p6 _ h.1
      have a2 := p6 _ h.2.1
      have a3 := (nums q hq).2
      rw [← row_f, Str.length_append, Str.length_append, Str.length_append, Str.length_append, Str.length_append, l1]
      have : Str.empty.length = 0 := rfl
      omega
    have tll : (tailS ts).length ≤ 13000 := by
      have := join_len (y := ", ") (xs := ts.map rowS) (m := 214) (fun x hx => by
        obtain ⟨q, hq, rfl⟩ := List.mem_map.mp hx
        exact rl q hq)
      have l2 : (", " : Str).length = 2 := by decide +kernel
      rw [List.length_map, l2] at this
      have := g.al
      show (Txt.join ", " (ts.map rowS)).length ≤ _
      omega
    refine iteT ⟨_, rfl, ⟨_, rfl⟩, _, _, _, rfl, rfl, _, rfl, ⟨trivial, trivial, trivial, trivial⟩, ?_⟩
    refine cmpD_map triD' (fun q => .str (rowS q)) (show ts.length ≤ 1000000 by have := g.al; omega) (fun q hq X hX => ?_) ?_
    · have h := g.cost hq
      have a1 := p6 _ h.1
      have a2 := p6 _ h.2.1
      have a3 := (nums q hq).2
      have z0 : Str.empty.length = 0 := rfl
      refine ⟨_, rfl, rfl, rfl, _, if_pos (big_le (by omega)), _, rfl, ?_, _, rfl, ?_, _, if_pos (big_le (by omega)), _, rfl, ?_, _, rfl, ?_, _, if_pos (nums q hq).1, _, rfl, ?_, rfl, ?_⟩
      · rw [Str.length_append]
        exact big_le (by omega)
      · rw [Str.length_append, Str.length_append, l1]
        exact big_le (by omega)
      · rw [Str.length_append, Str.length_append, Str.length_append, l1]
        exact big_le (by omega)
      · rw [Str.length_append, Str.length_append, Str.length_append, Str.length_append, l1]
        exact big_le (by omega)
      · have := rl q hq
        rw [← row_f] at this
        exact big_le (Nat.le_trans this (by decide))
      · have q1 : X (.str (rowS q)) := hX
        rw [← row_f] at q1
        exact q1
    · have l2 : (", " : Str).length = 2 := by decide +kernel
      have gal := g.al
      refine ⟨_, _, ts.map rowS, rfl, rfl, ?_, ?_, ?_⟩
      · have e : (ts.map fun q => D.str (rowS q)) = (ts.map rowS).map D.str := by rw [List.map_map]; rfl
        rw [e]
        exact strL_map _
      · refine join_room (m := 214) (fun x hx => ?_) ?_
        · obtain ⟨q, hq, rfl⟩ := List.mem_map.mp hx
          exact rl q hq
        · rw [List.length_map, l2]
          omega
      · refine ⟨?_, ⟨_, rfl⟩, " ", _, (t :: "at" :: ps) ++ [("go" : Str), tailS ts], rfl, rfl, ?_, ?_, ?_⟩
        · show ((D.str t :: D.str "at" :: (ps.map D.str ++ [])) ++ [D.str "go", _]).length ≤ sizeLine
          rw [List.append_nil, List.length_append, List.length_cons, List.length_cons, List.length_map]
          show ps.length + 1 + 1 + 2 ≤ sizeLine
          exact big_le (by omega)
        · rw [List.append_nil]
          have q := strL_map ((t :: "at" :: ps) ++ [("go" : Str), tailS ts])
          rw [List.map_append] at q
          exact q
        · rw [List.map_append, List.sum_append, List.length_append, List.map_cons, List.map_cons, List.sum_cons, List.sum_cons, List.length_cons, List.length_cons, List.map_cons, List.map_cons, List.sum_cons, List.sum_cons, l1, la, lg]
          show t.length + (2 + (ps.map (·.length)).sum) + (2 + ((tailS ts).length + 0)) + (ps.length + 1 + 1 + 2) * 1 ≤ _
          omega
        · have e : stepS t ps ts = Txt.join " " ((t :: "at" :: ps) ++ [("go" : Str), tailS ts]) := by
            unfold stepS
            rw [if_neg hts]
          rw [e] at p
          exact p
end
end Vf

set_option Elab.async false
set_option linter.all false
set_option maxRecDepth 100000
set_option maxHeartbeats 1000000
/-! what the top leaves, as laws by data take it -/
namespace Vf
open PySem PySem.Spec PyProof.Rows L2
/-- a def of the text as the written part holds it -/
structure FnRaw (K : PySem.W.Frag) (x qual : Str) (st : Stmt) (f : Addr) : Prop where
  ex : ∃ (oc : Value) (od : Option Addr) (kV dc pm : Value) (an : Option Addr) (cd ct : Value) (sl : Array (Option Value)), K.lookup f = some ⟨oc, od, .func (PySem.W.fnOf x qual (defArgs st) (defBody st) (defScope st) .none kV dc pm an cd ct), sl⟩ ∧ PySem.W.codeIn K cd qual = true
  kp : PySem.W.keepIn K (.ref f) = true
theorem FnRaw.fn {K : PySem.W.Frag} {x qual : Str} {st : Stmt} {f : Addr} (r : FnRaw K x qual st f) : ∃ fd, Fun K x qual st f fd := by
  obtain ⟨oc, od, kV, dc, pm, an, cd, ct, sl, h, c⟩ := r.ex
  exact ⟨_, fun_mk h c r.kp⟩
/-- a def with one default -/
structure FnRawV (K : PySem.W.Frag) (x qual : Str) (st : Stmt) (f : Addr) (u : Value) : Prop where
  ex : ∃ (oc : Value) (od : Option Addr) (T : Addr) (kV dc pm : Value) (an : Option Addr) (cd ct : Value) (sl : Array (Option Value)) (oT : Obj) (n : Nat), K.lookup f = some ⟨oc, od, .func (PySem.W.fnOf x qual (defArgs st) (defBody st) (defScope st) (.ref T) kV dc pm an cd ct), sl⟩ ∧ PySem.W.codeIn K cd qual = true ∧
    K.lookup T = some oT ∧ oT.data = .seq #[u] n
  kp : PySem.W.keepIn K (.ref f) = true
theorem FnRawV.fn {K : PySem.W.Frag} {x qual : Str} {st : Stmt} {f : Addr} {u : Value} {v : V} (r : FnRawV K x qual st f u) (h : RelV v u) : ∃ fd, FunD K x qual (defArgs st) (defBody st) (defScope st) [v] [] f fd := by
  obtain ⟨oc, od, T, kV, dc, pm, an, cd, ct, sl, oT, n, hl, c, hT, dT⟩ := r.ex
  exact ⟨_, ⟨oc, od, .ref T, kV, dc, pm, an, cd, ct, sl, rfl, hl, c, .inr ⟨by simp, T, oT, [u], n, rfl, hT, dT, .cons h .nil⟩, .inl rfl⟩, r.kp⟩
/-- the module's constants -/
structure CnRaw (K : PySem.W.Frag) : Prop where
  ex : ∃ (t1 t2 : Tok) (kw : Addr) (o : Obj) (its : Array Value) (n : Nat), PySem.W.nsIn K mainGlobals "LETTERS" = some (some (.str "abcdefghijklmnopqrstuvwxyz" t1)) ∧ PySem.W.nsIn K mainGlobals "LONGEST_NAME" = some (some (.int 6 t2)) ∧ PySem.W.nsIn K mainGlobals "KEPT_WORDS" = some (some (.ref kw)) ∧
    K.lookup kw = some o ∧ o.cls = .type "tuple" ∧ o.data = .seq its n ∧ its.size ≤ sizeLine ∧ Vals (keptL.map V.str) its.toList
structure CnRawT (K : PySem.W.Frag) : Prop where
  ex : ∃ (t1 t2 : Tok), PySem.W.nsIn K mainGlobals "DIGITS" = some (some (.str "0123456789" t1)) ∧ PySem.W.nsIn K mainGlobals "MOST_DIGITS" = some (some (.int 19 t2))
section
variable {K : PySem.W.Frag} {h : Heap} {mg : Str → Option Value}
theorem CnRaw.cn (X : K.In h) (G : h.Ns mainGlobals mg) (r : CnRaw K) : Cn K mg := by
  obtain ⟨t1, t2, kw, o, its, n, a, b, c, l1, l2, l3, l4, l5⟩ := r.ex
  exact ⟨t1, t2, kw, PySem.W.mg_of X G a, PySem.W.mg_of X G b, PySem.W.mg_of X G c, fun G' => ⟨kw, _, rfl, .inr ⟨o, its, n, l1, l2, l3, l4, l5⟩, rp_strs keptL⟩⟩
theorem CnRawT.cn (X : K.In h) (G : h.Ns mainGlobals mg) (r : CnRawT K) : CnT K mg := by
  obtain ⟨t1, t2, a, b⟩ := r.ex
  exact ⟨t1, t2, PySem.W.mg_of X G a, PySem.W.mg_of X G b⟩
theorem bt_mk (X : K.In h) (G : h.Ns mainGlobals mg)
    (z : ∀ x ∈ (["int", "abs", "len", "range", "tuple", "list", "set", "sorted", "min", "max", "all", "isinstance", "str", "bool", "enumerate", "repr", "type", "any", "sum", "zip", "reversed", "dict", "ValueError", "KeyError", "IndexError"] : List Str), PySem.W.nsIn K mainGlobals x = some none) : Bt mg := by
  have N : ∀ {x : Str}, PySem.W.nsIn K mainGlobals x = some none → mg x = none := fun z => PySem.W.mg_none_of X G z
  constructor <;> exact N (z _ (by simp))
end
/-- a class of the program -/
structure ClRaw (K : PySem.W.Frag) (C : Addr) : Prop where
  cl : Cls K C
  ob : PySem.W.mroIn K C (.type "object") = some true
  ha : PySem.W.findIn K (.ref C) "__class__" = some (some (.builtin "object.__class__"))
  hn : PySem.W.specialIn K (.builtin "object.__class__") "__get__" = some (some (.builtin "getset_descriptor.__get__"))
  ht : PySem.W.takesIn K (.builtin "object.__class__") = some true
  hy : PySem.W.typeIn K (.ref C) = some (.type "type")
  m1 : PySem.W.mroIn K C (.type "str") = some false
  m2 : PySem.W.mroIn K C (.type "int") = some false
  m3 : PySem.W.mroIn K C (.type "bool") = some false
  m4 : PySem.W.mroIn K C (.type "list") = some false
  m5 : PySem.W.mroIn K C (.type "tuple") = some false
theorem sub_ty {K : PySem.W.Frag} {T : String} {C : Addr} {ts : List Value} (h : fastBuiltinMro T = some ts) (hn : ts.contains (.ref C) = false) : PySem.W.subIn K (.type T) (.ref C) = some false := by
  show (fastBuiltinMro T).map (·.contains (.ref C)) = some false
  rw [h]
  show some (ts.contains (.ref C)) = some false
  rw [hn]
theorem no_ref {l : List String} {C : Addr} : (l.map Value.type).contains (.ref C) = false := by
  rw [List.contains_eq_any_beq, List.any_eq_false]
  intro v hv z
  obtain ⟨T, _, rfl⟩ := List.mem_map.mp hv
  cases beq_iff_eq.mp z
theorem ClRaw.hc {K : PySem.W.Frag} {C : Addr} (r : ClRaw K C) : (PySem.W.clsIn K C).isSome = true := by
  obtain ⟨cd, hc, _⟩ := PySem.W.any_some r.cl.hd
  rw [hc]
  rfl
theorem kit_ref {K : PySem.W.Frag} {C : Addr} {T : String} (hc : (PySem.W.clsIn K C).isSome = true) (hy : PySem.W.typeIn K (.ref C) = some (.type "type")) (h : PySem.W.subIn K (.type T) (.ref C) = some false) : PySem.W.kitOne K (.type T) (.ref C) = some false := by
  unfold PySem.W.kitOne
  rw [if_neg (show ¬ (Value.type T == Value.ref C) = true from fun z => by cases beq_iff_eq.mp z)]
  show (if ((PySem.W.clsIn K C).isSome && PySem.W.typeIn K (.ref C) == some (.type "type")) = true then PySem.W.subIn K (.type T) (.ref C) else none) = _
  rw [hc, hy, if_pos (by decide)]
  exact h
theorem kit_no {K : PySem.W.Frag} {C : Addr} {T : String} (hm : PySem.W.kitMeta T = true) (h : PySem.W.mroIn K C (.type T) = some false) : PySem.W.kitOne K (.ref C) (.type T) = some false := by
  unfold PySem.W.kitOne
  rw [if_neg (show ¬ (Value.ref C == Value.type T) = true from fun z => by cases beq_iff_eq.mp z)]
  show (if PySem.W.kitMeta T = true then PySem.W.mroIn K C (.type T) else none) = _
  rw [if_pos hm]
  exact h
/-- one class is told apart from the data -/
theorem ClRaw.tab {K : PySem.W.Frag} {C : Addr} (r : ClRaw K C) : ClsTab K [C] := by
  refine ⟨fun C' hC H a dx us e => ?_, fun C' hC n hn => ?_, fun C' hC C'' hC2 => ?_, fun C' hC n hn => ?_⟩
  · rw [List.mem_singleton] at hC
    subst hC
    exact .base (.ins e r.cl r.ha r.hn r.ht r.ob)
  · rw [List.mem_singleton] at hC
    subst hC
    simp only [List.mem_cons, List.not_mem_nil, or_false] at hn
    rcases hn with rfl | rfl | rfl | rfl | rfl
    · exact kit_no (by decide +kernel) r.m1
    · exact kit_no (by decide +kernel) r.m2
    · exact kit_no (by decide +kernel) r.m3
    · exact kit_no (by decide +kernel) r.m4
    · exact kit_no (by decide +kernel) r.m5
  · rw [List.mem_singleton] at hC hC2
    subst hC hC2
    unfold PySem.W.kitOne
    rw [if_pos (beq_self_eq_true _), beq_self_eq_true]
  · rw [List.mem_singleton] at hC
    subst hC
    have S : ∀ {l : List String}, fastBuiltinMro n = some (l.map Value.type) → PySem.W.kitOne K (.type n) (.ref C') = some false := fun h => kit_ref r.hc r.hy (sub_ty h no_ref)
    simp only [List.mem_cons, List.not_mem_nil, or_false] at hn
    rcases hn with rfl | rfl | rfl | rfl | rfl | rfl | rfl
    · exact S (l := ["str", "object"]) (by decide +kernel)
    · exact S (l := ["int", "object"]) (by decide +kernel)
    · exact S (l := ["bool", "int", "object"]) (by decide +kernel)
    · exact S (l := ["list", "object"]) (by decide +kernel)
    · exact S (l := ["tuple", "object"]) (by decide +kernel)
    · exact S (l := ["NoneType", "object"]) (by decide +kernel)
    · exact S (l := ["dict", "object"]) (by decide +kernel)
end Vf

set_option Elab.async false
set_option linter.all false
set_option maxRecDepth 100000
set_option maxHeartbeats 4000000
/-! error classes as the written part holds them -/
namespace Vf
open PySem PySem.Spec PyProof.Rows L2
/-- an error class over another as the written part holds it -/
structure CRaw (K : PySem.W.Frag) (C : Addr) (bm : List Value) (newId : String) : Prop where
  cls : ∃ (nm q : Str) (N : Addr) (bs : List Value) (sn : List Str) (sub : List Value) (ab : Bool) (col : Option Bool) (dd : Option Addr) (k0 k1 k2 k3 k5 : Option Value), K.lookup C = some (excClassObj nm q C N bs bm true sn sub ab col dd k0 k1 k2 k3 k5 newId)
  kC : PySem.W.keepIn K (.ref C) = true
  hg : PySem.W.findIn K (.ref C) "__getattribute__" = some (some (.builtin "BaseException.__getattribute__"))
  hk : PySem.W.findIn K (.ref C) "__getattr__" = some none
  hs : PySem.W.subIn K (.ref C) (.type "BaseException") = some true
  hd : PySem.W.hasDictIn K C = true
  ha : PySem.W.findIn K (.ref C) "__class__" = some (some (.builtin "object.__class__"))
  hm : PySem.W.mroIn K C (.type "object") = some true
structure XRaw (K : PySem.W.Frag) (C fI : Addr) (f : Str) : Prop where
  sa : PySem.W.findIn K (.ref C) "__setattr__" = some (some (.builtin "object.__setattr__"))
  no : PySem.W.findIn K (.ref C) f = some none
  iC : PySem.W.findIn K (.ref C) "__init__" = some (some (.ref fI))
  tI : PySem.W.typeIn K (.ref fI) = some (.type "function")
section
variable {K : PySem.W.Frag} {C C' : Addr} {bm bm' : List Value} {n n' : String}
theorem CRaw.mro (r : CRaw K C bm n) (v : Value) : PySem.W.mroIn K C v = some ((Value.ref C :: bm).contains v) := by
  obtain ⟨nm, q, N, bs, sn, sub, ab, col, dd, k0, k1, k2, k3, k5, h⟩ := r.cls
  unfold PySem.W.mroIn PySem.W.clsIn
  rw [h]
  rfl
theorem CRaw.kit (r : CRaw K C bm n) (r' : CRaw K C' bm' n') : PySem.W.kitOne K (.ref C) (.ref C') = some ((Value.ref C :: bm).contains (.ref C')) := by
  obtain ⟨nm, q, N, bs, sn, sub, ab, col, dd, k0, k1, k2, k3, k5, h⟩ := r'.cls
  unfold PySem.W.kitOne
  by_cases e : (Value.ref C == Value.ref C') = true
  · rw [if_pos e]
    have e' : Value.ref C' = Value.ref C := (beq_iff_eq.mp e).symm
    rw [List.contains_cons, e', beq_self_eq_true, Bool.true_or]
  · rw [if_neg e]
    have h1 : (PySem.W.clsIn K C').isSome = true := by
      unfold PySem.W.clsIn
      rw [h]
      rfl
    have h2 : PySem.W.typeIn K (.ref C') = some (.type "type") := by
      show (K.lookup C').map _ = _
      rw [h]
      rfl
    have h3 : ((PySem.W.clsIn K C').isSome && PySem.W.typeIn K (.ref C') == some (.type "type")) = true := by
      rw [h1, h2]
      decide
    show (if ((PySem.W.clsIn K C').isSome && PySem.W.typeIn K (.ref C') == some (.type "type")) = true then PySem.W.subIn K (.ref C) (.ref C') else none) = _
    rw [if_pos h3]
    exact r.mro _
theorem CRaw.kitT (r : CRaw K C bm n) {T : String} (hT : PySem.W.kitMeta T = true) : PySem.W.kitOne K (.ref C) (.type T) = some ((Value.ref C :: bm).contains (.type T)) := by
  unfold PySem.W.kitOne
  rw [if_neg (show ¬ (Value.ref C == Value.type T) = true from fun z => by cases beq_iff_eq.mp z)]
  show (if PySem.W.kitMeta T = true then PySem.W.subIn K (.ref C) (.type T) else none) = _
  rw [if_pos hT]
  exact r.mro _
theorem CRaw.exc (r : CRaw K C bm n) (hn : PySem.W.specialIn K (.builtin "object.__class__") "__get__" = some (some (.builtin "getset_descriptor.__get__"))) (ht : PySem.W.takesIn K (.builtin "object.__class__") = some true) : ExcC K C :=
  ⟨r.hg, r.hk, r.hs, r.hd, r.ha, hn, ht, r.hm⟩
theorem beq_ref {a b : Addr} : (Value.ref a == Value.ref b) = decide (a = b) := by
  by_cases h : a = b
  · subst h
    simp
  · rw [decide_eq_false h]
    exact beq_eq_false_iff_ne.mpr fun z => h (Value.ref.inj z)
theorem has_ref {l : List Value} (h : ∀ v ∈ l, ∃ T, v = Value.type T) (a : Addr) : l.contains (.ref a) = false := by
  rw [List.contains_eq_any_beq, List.any_eq_false]
  intro v hv
  obtain ⟨T, rfl⟩ := h v hv
  intro z
  cases beq_iff_eq.mp z
theorem types_only (l : List String) : ∀ v ∈ l.map Value.type, ∃ T, v = Value.type T := fun v hv => by
  obtain ⟨T, _, rfl⟩ := List.mem_map.mp hv
  exact ⟨T, rfl⟩
theorem xbinds {x qual : Str} {st : Stmt} {f : Addr} {fd : FuncData} {g : Str} (F : Fun K x qual st f fd)
    (h1 : ∀ (kV doc pm : Value) (an : Option Addr) (cdv ct a v : Value), bindArgs (PySem.W.fnOf x qual (defArgs st) (defBody st) (defScope st) .none kV doc pm an cdv ct) ⟨[a, v], []⟩ = pure ([(("self" : Str), a), (g, v)] : List (Str × Value)))
    (h2 : ∀ (kV doc pm : Value) (an : Option Addr) (cdv ct a v : Value), bindArgs (PySem.W.fnOf x qual (defArgs st) (defBody st) (defScope st) .none kV doc pm an cdv ct) ⟨[a], [(g, v)]⟩ = pure ([(("self" : Str), a), (g, v)] : List (Str × Value))) : XBinds K fd g := by
  obtain ⟨oc, od, kV, doc, pm, an, cdv, ct, osl, rfl, lk, hcd⟩ := F.ex
  exact fun s a v _ => ⟨.of_eq (h1 kV doc pm an cdv ct a v), .of_eq (h2 kV doc pm an cdv ct a v)⟩
end
theorem chainV {pe : Addr} : Chain "ValueError" [.ref pe, .type "ValueError", .type "Exception", .type "BaseException", .type "object"] := ⟨rfl, rfl, rfl⟩
theorem chainI : Chain "IndexError" [.type "IndexError", .type "LookupError", .type "Exception", .type "BaseException", .type "object"] := ⟨by decide +kernel, by decide +kernel, by decide +kernel⟩
theorem chainK : Chain "LookupError" [.type "KeyError", .type "LookupError", .type "Exception", .type "BaseException", .type "object"] := ⟨by decide +kernel, by decide +kernel, by decide +kernel⟩
theorem passesKey (self : Value) : refuseLoop self "__setattr__" [.type "KeyError", .type "LookupError", .type "Exception", .type "BaseException", .type "object"] = pure () := by kernel_rfl
theorem passesIx (self : Value) : refuseLoop self "__setattr__" [.type "IndexError", .type "LookupError", .type "Exception", .type "BaseException", .type "object"] = pure () := by kernel_rfl
section
variable {K : PySem.W.Frag} {mg : Str → Option Value} {x : Str} {C fI pe : Addr} {f : Str}
theorem xcV (g : mg x = some (.ref C)) (r : CRaw K C [.ref pe, .type "ValueError", .type "Exception", .type "BaseException", .type "object"] "ValueError.__new__") (y : XRaw K C fI f) (e : ExcC K C) : XC K mg x C fI f := by
  obtain ⟨nm, q, N, bs, sn, sub, ab, col, dd, k0, k1, k2, k3, k5, h⟩ := r.cls
  exact ⟨g, ⟨_, _, _, _, nm, q, N, bs, _, sn, sub, ab, col, dd, k0, k1, k2, k3, k5, PySem.F.excBase_ValueError, chainV, h, (by first | rfl | decide +kernel), fun self => (refuseLoop_ref _ _ _ _).trans (PySem.F.store_ValueError.passes self)⟩, y.sa, y.no, r.kC, y.iC, y.tI, e⟩
theorem xcI (g : mg x = some (.ref C)) (r : CRaw K C [.type "IndexError", .type "LookupError", .type "Exception", .type "BaseException", .type "object"] "IndexError.__new__") (y : XRaw K C fI f) (e : ExcC K C) : XC K mg x C fI f := by
  obtain ⟨nm, q, N, bs, sn, sub, ab, col, dd, k0, k1, k2, k3, k5, h⟩ := r.cls
  exact ⟨g, ⟨_, _, _, _, nm, q, N, bs, _, sn, sub, ab, col, dd, k0, k1, k2, k3, k5, PySem.F.excBase_IndexError, chainI, h, (by first | rfl | decide +kernel), fun self => passesIx self⟩, y.sa, y.no, r.kC, y.iC, y.tI, e⟩
theorem xcK (g : mg x = some (.ref C)) (r : CRaw K C [.type "KeyError", .type "LookupError", .type "Exception", .type "BaseException", .type "object"] "LookupError.__new__") (y : XRaw K C fI f) (e : ExcC K C) : XC K mg x C fI f := by
  obtain ⟨nm, q, N, bs, sn, sub, ab, col, dd, k0, k1, k2, k3, k5, h⟩ := r.cls
  exact ⟨g, ⟨_, _, _, _, nm, q, N, bs, _, sn, sub, ab, col, dd, k0, k1, k2, k3, k5, PySem.F.excBase_LookupError, chainK, h, (by first | rfl | decide +kernel), fun self => passesKey self⟩, y.sa, y.no, r.kC, y.iC, y.tI, e⟩
end
theorem CRaw.ty {K : PySem.W.Frag} {C : Addr} {bm : List Value} {n : String} (r : CRaw K C bm n) : PySem.W.typeIn K (.ref C) = some (.type "type") := by
  obtain ⟨nm, q, N, bs, sn, sub, ab, col, dd, k0, k1, k2, k3, k5, h⟩ := r.cls
  show (K.lookup C).map _ = _
  rw [h]
  rfl
theorem CRaw.te {K : PySem.W.Frag} {C : Addr} {bm : List Value} {n : String} (r : CRaw K C bm n) : PySem.W.exmOne K (.ref C) (.ref C) = some true := by
  unfold PySem.W.exmOne
  rw [r.hs, if_pos (by decide)]
  obtain ⟨nm, q, N, bs, sn, sub, ab, col, dd, k0, k1, k2, k3, k5, h⟩ := r.cls
  have h1 : (PySem.W.clsIn K C).isSome = true := by
    unfold PySem.W.clsIn
    rw [h]
    rfl
  show (if ((PySem.W.clsIn K C).isSome && PySem.W.typeIn K (.ref C) == some (.type "type")) = true then PySem.W.subIn K (.ref C) (.ref C) else none) = _
  rw [h1, r.ty, if_pos (by decide)]
  refine (r.mro _).trans ?_
  rw [List.contains_cons, beq_self_eq_true, Bool.true_or]
end Vf

set_option Elab.async false
set_option linter.all false
set_option maxRecDepth 100000
set_option maxHeartbeats 1000000
/-! errors as the written part holds them -/
namespace Vf
open PySem PySem.Spec PyProof.Rows L2
theorem CRaw.caught {K : PySem.W.Frag} {C C' : Addr} {bm bm' : List Value} {n n' : String} {b : Bool} (r : CRaw K C bm n) (r' : CRaw K C' bm' n') (hb : (Value.ref C :: bm).contains (.ref C') = b) : PySem.W.exmOne K (.ref C) (.ref C') = some b := by
  unfold PySem.W.exmOne
  rw [r'.hs, if_pos (by decide)]
  obtain ⟨nm, q, N, bs, sn, sub, ab, col, dd, k0, k1, k2, k3, k5, h⟩ := r'.cls
  have h1 : (PySem.W.clsIn K C').isSome = true := by
    unfold PySem.W.clsIn
    rw [h]
    rfl
  show (if ((PySem.W.clsIn K C').isSome && PySem.W.typeIn K (.ref C') == some (.type "type")) = true then PySem.W.subIn K (.ref C) (.ref C') else none) = _
  rw [h1, r'.ty, if_pos (by decide)]
  exact (r.mro _).trans (congrArg some hb)
abbrev bmV (pe : Addr) : List Value := [.ref pe, .type "ValueError", .type "Exception", .type "BaseException", .type "object"]
abbrev bmP : List Value := [.type "ValueError", .type "Exception", .type "BaseException", .type "object"]
theorem cont_head {a : Value} {l : List Value} : (a :: l).contains a = true := by
  rw [List.contains_cons, beq_self_eq_true, Bool.true_or]
theorem cont_pe {c pe : Addr} : (Value.ref c :: bmV pe).contains (.ref pe) = true := by
  rw [List.contains_cons, cont_head, Bool.or_true]
theorem cont_no {c pe t : Addr} (h1 : t ≠ c) (h2 : t ≠ pe) : (Value.ref c :: bmV pe).contains (.ref t) = false := by
  rw [List.contains_eq_any_beq, List.any_eq_false]
  intro v hv z
  have e := beq_iff_eq.mp z
  subst e
  simp only [bmV, List.mem_cons, List.not_mem_nil, or_false] at hv
  rcases hv with e | e | e | e | e | e
  · injection e with e; exact h1 e
  · injection e with e; exact h2 e
  all_goals cases e
theorem kit_me {K : PySem.W.Frag} {C : Addr} : PySem.W.kitOne K (.ref C) (.ref C) = some true := by
  unfold PySem.W.kitOne
  rw [if_pos (beq_self_eq_true _)]
end Vf

set_option Elab.async false
set_option linter.all false
set_option maxRecDepth 100000
set_option maxHeartbeats 1000000
/-! things made that may not be made: errors that fly -/
namespace Vf
open PySem PySem.Spec PyProof.Rows L2
section
variable {P : Program} {w : World} {K : PySem.W.Frag} {mg : Str → Option Value} {base : Heap}
/-- __init__ of a class that may raise -/
theorem okIFX {x qual : Str} {st : Stmt} {f C : Addr} {fd : FuncData} {N ps : List Str} {dvs : List V} {k n : Nat} {M : Mi} (F : FunD K x qual (defArgs st) (defBody st) (defScope st) dvs [] f fd) (S : FnScope N ps (defScope st)) (hn : n + 1 = ps.length)
    (hbody : ∀ (cdv : Value) (A : Around) (outer : List Env) (s : Shared) (H : Hp) (E : XK), Room k (A.deeper (envOfC qual (defScope st) s.heap.objs.size f cdv)) →
      ∃ Fb, PDSs K (fun cls d _ H => E cls d H) (cxOf (L2.CX P w) P w K mg base N qual (defScope st) f cdv A outer s H E) (defBody st) Fb ∧ ∀ y dx ds P R, ds.length = n → M ds P R → Fb (evIn y dx C ds N) (endIn y dx C P R)) : FnOk P w K mg base (L2.CX P w) (k + 1) f fd ps (spI K C n M) := by
  refine FunD.ok F S (fun vs H Q E h => ?_) fun cdv A outer s H vs Q E hr h => ?_
  · obtain ⟨G, x, dx, us, ds, P, R, rfl, _, _, _, ra, hl, _⟩ := h
    rw [List.length_cons, ra.len, hl, hn]
  · obtain ⟨Fb, h1, h2⟩ := hbody cdv A outer s H E hr
    exact init_go h1 h2 h
structure CalIX (P : Program) (w : World) (K : PySem.W.Frag) (mg : Str → Option Value) (base : Heap) (x : Str) (C : Addr) (k n : Nat) (M : Mi) : Prop where
  ex : ∃ f fd ps, FnOk P w K mg base (L2.CX P w) k f fd ps (spI K C n M) ∧ Mk K C f ∧ mg x = some (.ref C) ∧ Binds K fd ps []
end
section
variable {X : Cx} {k : Nat} {f C : Addr} {fd : FuncData} {ps : List Str} {sp : Sp}
/-- what is made, its errors told by the slots -/
theorem run_mkS {CXs : CXT} {E1 : XK} {pins : List (Addr × Obj)} {τ : L2.St} {H : Hp} {z : Shared} {Q : VK} {us : List Value} {vs : List V} (mk : Mk X.K C f) (G : FnOk X.prog X.w X.K X.mg X.base CXs k f fd ps sp) (rm : Room (k + 1) X.A) (bd : Binds X.K fd ps []) (px : PassesAt CXs X τ E1)
    (J : Inv X pins τ H z) (rv : Vals vs us) (want : ∀ x dx, H x = none → H dx = none → dx ≠ x → sp (.ref x :: vs) (upd (upd H dx (.own x)) x (.ins C dx [])) (fun v H2 => v = .non ∧ Q (.ref x) H2) E1) : wpAny (model X.prog X.w) X.A (call (.ref C) us) (EP X pins τ Q) X.xe z := by
  obtain ⟨n, en⟩ : ∃ n, n = z.heap.objs.size := ⟨_, rfl⟩
  have fr : ∀ m, n ≤ m → H m = none := fun m hm => J.hok.fresh (en ▸ hm)
  have todo := want (n + 1) n (fr _ (Nat.le_succ n)) (fr _ (Nat.le_refl n)) (Nat.ne_of_lt (Nat.lt_succ_self n))
  have J2 := Inv.made (C := C) J
  rw [← en] at J2
  have rv2 : Vals (V.ref (n + 1) :: vs) (Value.ref (n + 1) :: us) := .cons rfl rv
  have len2 : ((Value.ref (n + 1) :: us) ++ []).length = ps.length := by
    rw [List.append_nil, ← rv2.length]
    exact G.len _ _ _ _ todo
  have bound := bd _ (Value.ref (n + 1) :: us) J2.kIn len2
  rw [List.append_nil] at bound
  have ran := G.run _ X.stack _ _ ⟨Value.ref (n + 1) :: us, []⟩ _ _ _ E1 (rm.make C us []) (J2.env0.make C us []) bound rv2 todo
  subst en
  refine wpAny_call (make_map (f := f) J.kIn mk.makes mk.init (beq_iff_eq.mp mk.fn) (codeAny_mono ran fun r s' got => ?_))
  match r, got with
  | .error e, got => exact px pins _ _ e s' J2 got
  | .ok (.ret u), got =>
    obtain ⟨v, H', J3, rw3, ev, q3⟩ := J2.after got
    cases ev
    exact ⟨rw3, ⟨.ref (z.heap.objs.size + 1), H', J3, rfl, q3⟩⟩
  | .ok .next, got => exact False.elim got
  | .ok .brk, got => exact False.elim got
  | .ok .cont, got => exact False.elim got
def tMakeS (C : Addr) (sp : Sp) (E : L2.St → XK) (t : TA) : TE := fun σ H Q => t σ H fun vs H1 => ∀ x dx, H1 x = none → H1 dx = none → dx ≠ x → sp (.ref x :: vs) (upd (upd H1 dx (.own x)) x (.ins C dx [])) (fun v H2 => v = .non ∧ Q (.ref x) H2) (E σ)
theorem pe_makeS {CXs : CXT} {E : L2.St → XK} {x : Str} {p pos : Pos} {e : Expr} {es : List Expr} {t : TA} (mk : Mk X.K C f) (G : FnOk X.prog X.w X.K X.mg X.base CXs k f fd ps sp) (rm : Room (k + 1) X.A) (hm : X.mg x = some (.ref C)) (bd : Binds X.K fd ps []) (px : ∀ σ, PassesAt CXs X σ (E σ)) (ha : PA X (e :: es) t) (hg : Gl X x)
    (hdb : (x == ("__debug__" : Str)) = false) (he : starEach (e :: es) X.env = (false, eval e X.env) :: starEach es X.env) (hpl : (backTo pos (starEach es X.env)).any (·.1) = false) : PE X (.Call (.Name x p) (e :: es) [] pos) (tMakeS C sp E t) := by
  refine ⟨fun pins z σ H Q J h => wpAny_Call_Name_kw (ld_glob J hg hm ?_ hdb)⟩
  refine PySem.W.callWith_K (h₀ := X.base) J.ok.mod.kin mk.kp (thn (ha.run pos pins z σ H _ J h) ?_) he hpl
  rintro us z1 ⟨vs, H1, J1, r, q⟩
  exact ⟨J1.kIn, run_mkS mk G rm bd (px σ) J1 r q⟩
variable {K : PySem.W.Frag} {W : WX} {n : Nat} {M : Mi} {x : Str} {p pos : Pos} {e : Expr} {es : List Expr} {Fs : DA}
theorem pd_calIX (tk : Takes X W) (T : CalIX X.prog X.w X.K X.mg X.base x C k n M) (hr : Room (k + 1) X.A) (ha : PDA K W X (e :: es) Fs) (hK : X.K = K := by rfl) (hg : Gl X x := by rfl) (hdb : (x == ("__debug__" : Str)) = false := by decide)
    (he : starEach (e :: es) X.env = (false, eval e X.env) :: starEach es X.env := by rfl) (hpl : (backTo pos (starEach es X.env)).any (·.1) = false := by rfl) : PD K W X (.Call (.Name x p) (e :: es) [] pos) (makeXD C n M Fs) := by
  subst hK
  obtain ⟨f, fd, ps, F, mk, hm, hb⟩ := T.ex
  refine PE.imp (pe_makeS mk F hr hm hb (fun σ => passAt tk σ) ha hg hdb he hpl) fun σ H Q ⟨c, G, ρ, P, R, r, f, k, kx⟩ => ?_
  refine ⟨c, G, ρ, _, R, r, f, fun ds ρ1 vs H1 G1 f1 r1 s1 q1 x dx hx hd hne => ?_, kx⟩
  refine ⟨G1, x, dx, vs, ds, _, _, rfl, upd_same, r1.gh.free hx, made_in r1 hx hd hne, q1, f1.1, f1.2, fun ns fs us' H' G' pf eh en ra kp sg gh gx nw => ⟨rfl, ?_⟩, fun y e v H' G' z kp sg gh nw gx nx rp ne => ?_⟩
  · have ex := made_end r1 hx hd hne (C := C) (us := us') (by exact eh) kp sg gh gx nw
    exact k _ _ _ _ _ pf (r1.ext ex) (s1.trans ex.g) ⟨x, dx, us', rfl, upd_same, en, ra.mono (same_new gx)⟩
  · have ex : Ext H1 G1 H' G' := ⟨fun a o ea => by
      have n1 : a ≠ x := fun z => by rw [z, hx] at ea; cases ea
      have n2 : a ≠ dx := fun z => by rw [z, hd] at ea; cases ea
      exact kp a o n1 (by rw [upd_ne n1, upd_ne n2]; exact ea), sg, gh, fun a ha => (nw a ha).imp id fun z => by
      by_cases n1 : a = x
      · rw [n1]; exact hx
      · rw [upd_ne n1] at z
        by_cases n2 : a = dx
        · rw [n2]; exact hd
        · rw [upd_ne n2] at z; exact z⟩
    exact kx y ρ1 e v H' G' z (r1.ext ex) (s1.trans ex.g) rp ne
end
end Vf

set_option Elab.async false
set_option linter.all false
set_option maxRecDepth 100000
set_option maxHeartbeats 1000000
/-! Step(..) of any data: made, or refused with a word -/
namespace Vf
open PySem PySem.Spec PyProof.Rows L2
/-- the class InvalidStep -/
structure IsTxt (K : PySem.W.Frag) (mg : Str → Option Value) (CN fN : Addr) (dN : FuncData) : Prop where
  X : XC K mg "InvalidStep" CN fN "word"
  F : Fun K "__init__" "InvalidStep.__init__" sInvalidStepInit fN dN
  b : XBinds K dN "word"
  ty : PySem.W.typeIn K (.ref CN) = some (.type "type")
/-- the texts of a sequence -/
def strsOf (d : D) : List Str := match seqB d with
  | some l => (strL l).getD []
  | none => []
/-- the first parameter that is wrong -/
def wrongW (n pl al : D) : Option Str := if isNameD n = true then (if arePlacesD pl = true then (if areArrsD (strsOf pl) al = true then none else some "arrows") else some "places") else some "name"
theorem okTy_sh {cs : List Addr} {n : Nat} {d : D} (h : shN n d = true) : okTy cs d = true := by
  cases d <;> first | rfl | cases h
theorem places_inv {pl : D} (h : arePlacesD pl = true) : ∃ ps : List Str, seqB pl = some (ps.map D.str) ∧ ps ≠ [] ∧ (∀ z ∈ ps, nameB z = true) ∧ ps.Nodup ∧ strsOf pl = ps := by
  unfold arePlacesD at h
  cases e : seqB pl with
  | none => rw [e] at h; cases h
  | some l =>
    rw [e] at h
    have h : (!l.isEmpty && ((l.map isNameD).all id && (match strL l with | some zs => decide zs.Nodup | none => false))) = true := h
    rw [Bool.and_eq_true, Bool.and_eq_true] at h
    obtain ⟨zs, rfl, hz⟩ := names_strs h.2.1
    refine ⟨zs, rfl, fun z => ?_, List.all_eq_true.mp hz, ?_, ?_⟩
    · rw [z] at h
      cases h.1
    · have := h.2.2
      rw [strL_map] at this
      exact of_decide_eq_true this
    · unfold strsOf
      rw [e]
      show (strL (zs.map D.str)).getD [] = zs
      rw [strL_map]
      rfl
theorem arrs_inv {ps : List Str} {al : D} (h : areArrsD ps al = true) : ∃ ts : List Tri, seqB al = some (ts.map triD') ∧ (∀ q ∈ ts, arrOk ps q = true) ∧ (ts.map fun q => (q.1, q.2.1)).Nodup := by
  unfold areArrsD at h
  cases e : seqB al with
  | none => rw [e] at h; cases h
  | some l =>
    rw [e] at h
    have h : ((l.map (isArrD ps)).all id && (match tris l with | some ts => decide (ts.map fun t => (t.1, t.2.1)).Nodup | none => false)) = true := h
    rw [Bool.and_eq_true] at h
    obtain ⟨ts, rfl, ht⟩ := arrs_tris h.1
    have h2 := h.2
    rw [tris_map] at h2
    exact ⟨ts, rfl, List.all_eq_true.mp ht, of_decide_eq_true h2⟩
section
variable {P : Program} {w : World} {K : PySem.W.Frag} {mg : Str → Option Value} {base : Heap} {cs : List Addr}
theorem scInvalidStepInit : FnScope ["self", "word"] ["self", "word"] (defScope sInvalidStepInit) := ⟨rfl, rfl, rfl, by decide +kernel, rfl, by decide +kernel, by decide +kernel⟩
theorem ok_invalidStepInit {x : Str} {C f : Addr} {fd : FuncData} (F : Fun K "__init__" "InvalidStep.__init__" sInvalidStepInit f fd) (T : XC K mg x C f "word") : FnOk P w K mg base CX0 1 f fd ["self", "word"] (spXI C "word") := by
  refine F.ok scInvalidStepInit (fun vs H Q E h => ?_) (fun cdv A outer s H vs Q E hr h => ?_)
  · obtain ⟨a, v, rfl, _⟩ := h
    rfl
  · obtain ⟨a, v, rfl, ha, k⟩ := h
    exact ⟨_, pss_one (ps_setX T (pv 0) (pv 1)), _, rfl, _, rfl, a, rfl, ha, fun dx h1 h2 => k dx h1 h2⟩
def stepAnyM (CI : Addr) : Mi := fun ds P R => ∃ n pl al m, ds = [n, pl, al] ∧ shN m n = true ∧ shN m pl = true ∧ shN m al = true ∧ m ≤ 60 ∧ lenLe 4000 pl ∧ lenLe 60 al ∧ (∀ z, n = .str z → z.length ≤ 1000000) ∧
  ((∃ w, wrongW n pl al = some w ∧ R ⟨CI, "word", .str w⟩) ∨
   (wrongW n pl al = none ∧ ∀ (t : Str) (ps : List Str) (ts : List Tri) ps' ts', n = .str t → nameB t = true → seqB pl = some (ps.map .str) → seqB al = some (ts.map triD') → ps'.Perm ps → Asc ltS ps' → ts'.Perm ts → Asc ltT ts' → P stepNs [.str t, .tup (ps'.map .str), .tup (ts'.map triD')]))
theorem cal_stepX {C f CI fX : Addr} {fd dX : FuncData} {dvs : List V} (F : DfD K "__init__" "Step.__init__" sStepInit ["self", "name", "places", "arrows"] dvs f fd) (T : StepC K mg C) (Mm : Mk K C f) (C_is_name : Cal0 P w K mg base "is_name" 1 1 (isNameM cs)) (C_are_places : Cal0 P w K mg base "are_places" 2 1 arePlacesM) (C_are_arrows : Cal0 P w K mg base "are_arrows" 4 2 areArrsM) (B : Bt mg) (N : IsTxt K mg CI fX dX) : CalIX P w K mg base "Step" C 5 3 (stepAnyM CI) := by
  have GX : FnOk P w K mg base CX0 1 fX dX ["self", "word"] (spXI CI "word") := ok_invalidStepInit N.F N.X
  refine ⟨f, fd, _, okIFX F.F scStepInit rfl (fun cdv A outer s H E hr => ?_), Mm, T.g, F.b⟩
  refine ⟨_, (pds_cons (pds_if (pdt_not (pdt_val (pd_cal C_is_name (hr.mono (by decide)) (pda_cons (pd_var 1) pda_nil))))
      (pds_one (pds_raise (takes_of rfl rfl rfl rfl) N.X (raises_own N.X.ex.hs N.ty) GX (hr.mono (by decide)) N.b pd_str)) pds_nil)
      (pds_cons (pds_if (pdt_not (pdt_val (pd_cal C_are_places (hr.mono (by decide)) (pda_cons (pd_var 2) pda_nil))))
      (pds_one (pds_raise (takes_of rfl rfl rfl rfl) N.X (raises_own N.X.ex.hs N.ty) GX (hr.mono (by decide)) N.b pd_str)) pds_nil)
      (pds_cons (pds_if (pdt_not (pdt_val (pd_cal C_are_arrows (hr.mono (by decide)) (pda_cons (pd_var 3) (pda_cons (pd_var 2) pda_nil)))))
      (pds_one (pds_raise (takes_of rfl rfl rfl rfl) N.X (raises_own N.X.ex.hs N.ty) GX (hr.mono (by decide)) N.b pd_str)) pds_nil)
      (pds_cons (pds_fld (i := 0) rfl T.cl T.f_name (pv 0) (pd_var 1))
      (pds_cons (pds_fld (i := 0) rfl T.cl T.f_places (pv 0) (pd_bty (do_tuple rfl) B.tuple (pda_cons (pd_blt (do_sort rfl) B.sorted (pda_cons (pd_var 2) pda_nil)) pda_nil)))
      (pds_one (pds_fld (i := 0) rfl T.cl T.f_arrows (pv 0) (pd_bty (do_tuple rfl) B.tuple (pda_cons (pd_blt (do_sort rfl) B.sorted (pda_cons (pd_var 3) pda_nil)) pda_nil))))))))), ?_⟩
  rintro y dx ds P' R _ ⟨n, pl, al, m, rfl, h1, h2, h3, hm, l2, l3, hz, hv⟩
  unfold wrongW at hv
  refine ⟨rfl, n, rfl, okTy_sh h1, shN_sm h1, _, rfl, ?_⟩
  cases en : isNameD n with
  | false =>
    rw [en] at hv
    rcases hv with ⟨w, ew, r⟩ | ⟨ew, _⟩
    · cases ew
      exact iteT ⟨⟨_, _, rfl⟩, r⟩
    · cases ew
  | true =>
    rw [en, if_pos rfl] at hv
    refine iteF ⟨rfl, pl, m, rfl, h2, l2, _, rfl, ?_⟩
    cases ep : arePlacesD pl with
    | false =>
      rw [ep] at hv
      rcases hv with ⟨w, ew, r⟩ | ⟨ew, _⟩
      · cases ew
        exact iteT ⟨⟨_, _, rfl⟩, r⟩
      · cases ew
    | true =>
      rw [ep, if_pos rfl] at hv
      obtain ⟨ps, e2, ne, np, nd, es⟩ := places_inv ep
      rw [es] at hv
      have lp : ps.length ≤ 4000 := by
        have := l2 _ e2
        rwa [List.length_map] at this
      refine iteF ⟨rfl, al, pl, m, ps, rfl, h3, hm, l3, ⟨e2, fun z hz => shN_str (n := 0) (nameB_sh (np z hz)), lp⟩, _, rfl, ?_⟩
      cases ea : areArrsD ps al with
      | false =>
        rw [ea] at hv
        rcases hv with ⟨w, ew, r⟩ | ⟨ew, _⟩
        · cases ew
          exact iteT ⟨⟨_, _, rfl⟩, r⟩
        · cases ew
      | true =>
        rw [ea, if_pos rfl] at hv
        rcases hv with ⟨w, ew, _⟩ | ⟨_, k⟩
        · cases ew
        · obtain ⟨ts, e3, _, _⟩ := arrs_inv ea
          cases n with
          | str t =>
            refine iteF ⟨y, dx, [], [], rfl, by decide, by decide, ?_⟩
            refine ⟨_, e2, .inl ⟨ps, strL_map ps, fun ps' pp pa => ?_⟩⟩
            refine ⟨_, rfl, y, dx, _, _, rfl, by decide, by decide, ?_⟩
            refine ⟨_, e3, .inr ⟨ts, tris_map ts, fun ts' tp ta => ?_⟩⟩
            refine ⟨_, rfl, y, dx, _, _, rfl, by decide, by decide, ?_⟩
            exact ⟨_, _, rfl, k t ps ts ps' ts' rfl en e2 e3 pp pa tp ta⟩
          | _ => cases en
end
end Vf

set_option Elab.async false
set_option linter.all false
set_option maxRecDepth 100000
set_option maxHeartbeats 1000000
/-! texts: one within another, where it stands, how often; signs that are low -/
namespace Vf
open PySem PySem.Spec PyProof.Rows L2
open PySem.Builtin.Str (strSub)
abbrev occ1 (x y : Str) : List Nat := Builtin.Str.occurrences x y 0 x.length 1
theorem part_cases (x y : Str) : (occ1 x y = [] ∧ Txt.partition x y = (x, Str.empty, Str.empty)) ∨ ∃ i r, occ1 x y = i :: r ∧ Txt.partition x y = (strSub x 0 i, y, strSub x (i + y.length) x.length) ∧ i + y.length ≤ x.length := by
  unfold Txt.partition
  rcases StrLaws.occ_head x y 1 (Nat.le_refl 1) with ⟨h0, hn⟩ | ⟨i, r, h0, hi, hn⟩
  · rw [h0]; exact .inl ⟨h0, rfl⟩
  · rw [h0]; exact .inr ⟨i, r, h0, rfl, hi.1⟩
/-- all signs at most n -/
def lowS (n : Nat) (z : Str) : Prop := ∀ c ∈ TL.tl z, c ≤ n
theorem lowS.ok {n : Nat} {z : Str} (h : lowS n z) (hn : n < 1114112) : PyData.strOk z = true := strOk_of hn h
theorem lowS.app {n : Nat} {x y : Str} (hx : lowS n x) (hy : lowS n y) : lowS n (x ++ y) := fun c hc => by
  rw [TL.tl_append] at hc
  rcases List.mem_append.mp hc with h | h
  · exact hx c h
  · exact hy c h
theorem mem_joinL {S : List Nat} {c : Nat} : ∀ {ps : List (List Nat)}, c ∈ TL.joinL S ps → c ∈ S ∨ ∃ p ∈ ps, c ∈ p
  | [], h => by cases h
  | [p], h => .inr ⟨p, List.mem_cons_self, h⟩
  | p :: q :: r, h => by
    have h : c ∈ p ++ (S ++ TL.joinL S (q :: r)) := h
    rcases List.mem_append.mp h with h | h
    · exact .inr ⟨p, List.mem_cons_self, h⟩
    · rcases List.mem_append.mp h with h | h
      · exact .inl h
      · rcases mem_joinL h with h | ⟨x, hx, h⟩
        · exact .inl h
        · exact .inr ⟨x, List.mem_cons_of_mem _ hx, h⟩
theorem lowS.join {n : Nat} {y : Str} {xs : List Str} (hy : lowS n y) (hx : ∀ x ∈ xs, lowS n x) : lowS n (Txt.join y xs) := fun c hc => by
  have hc : c ∈ TL.tl (Txt.join y xs) := hc
  rw [tl_Join] at hc
  rcases mem_joinL hc with h | ⟨p, hp, h⟩
  · exact hy c h
  · obtain ⟨x, hx', rfl⟩ := List.mem_map.mp hp
    exact hx x hx' c h
theorem mem_spl {S : List Nat} {c : Nat} : ∀ {L : List Nat} {k : Nat} {acc p : List Nat}, p ∈ TL.spl S k acc L → c ∈ p → c ∈ acc ∨ c ∈ L
  | [], k, acc, p, hp, hc => by
    have hp : p ∈ [acc] := by
      cases k <;> exact hp
    rw [List.mem_singleton.mp hp] at hc
    exact .inl hc
  | x :: L, 0, acc, p, hp, hc => by
    have hp : p ∈ (if TL.pre S (x :: L) = true then acc :: TL.spl S (S.length - 1) [] L else TL.spl S 0 (acc ++ [x]) L) := hp
    split at hp
    · rcases List.mem_cons.mp hp with rfl | hp
      · exact .inl hc
      · rcases mem_spl hp hc with h | h
        · cases h
        · exact .inr (List.mem_cons_of_mem _ h)
    · rcases mem_spl hp hc with h | h
      · rcases List.mem_append.mp h with h | h
        · exact .inl h
        · rw [List.mem_singleton.mp h]
          exact .inr List.mem_cons_self
      · exact .inr (List.mem_cons_of_mem _ h)
  | x :: L, k + 1, acc, p, hp, hc => by
    have hp : p ∈ TL.spl S k acc L := hp
    rcases mem_spl hp hc with h | h
    · exact .inl h
    · exact .inr (List.mem_cons_of_mem _ h)
theorem lowS.split {n : Nat} {x y : Str} (hx : lowS n x) (hy : TL.tl y ≠ []) (hk : y.cps.all (· < 256) = true) : ∀ p ∈ Txt.split x y, lowS n p := fun p hp c hc => by
  have e := TL.split_spl x y hy (TL.kind_ok hk)
  have hp' : TL.tl p ∈ (Txt.split x y).map TL.tl := List.mem_map.mpr ⟨p, hp, rfl⟩
  rw [e] at hp'
  rcases mem_spl hp' hc with h | h
  · cases h
  · exact hx c h
theorem tl_sub (x : Str) (i j : Nat) : TL.tl (strSub x i j) = ((TL.tl x).drop i).take (j - i) := by
  show (x.cps.extract i j).toList = _
  rw [Array.toList_extract, List.extract_eq_drop_take]
theorem lowS.sub {n : Nat} {x : Str} (h : lowS n x) (i j : Nat) : lowS n (strSub x i j) := fun c hc => by
  have hc : c ∈ TL.tl (strSub x i j) := hc
  rw [tl_sub] at hc
  exact h c (List.mem_of_mem_drop (List.mem_of_mem_take hc))
theorem lowS.cut {n : Nat} {x : Str} (h : lowS n x) (lo hi : Option Int) : lowS n (cutS x lo hi) := fun c hc => by
  have hc : c ∈ (x.cps.toList.drop (HT.sIx x.length 0 lo)).take _ := hc
  exact h c (List.mem_of_mem_drop (List.mem_of_mem_take hc))
theorem lowS.part {n : Nat} {x y : Str} (h : lowS n x) : lowS n (Txt.partition x y).1 ∧ lowS n (Txt.partition x y).2.2 := by
  rcases part_cases x y with ⟨_, e⟩ | ⟨i, r, _, e, _⟩
  · rw [e]
    exact ⟨h, fun c hc => by cases hc⟩
  · rw [e]
    exact ⟨h.sub _ _, h.sub _ _⟩
theorem sIx_no (n d : Nat) : HT.sIx n d none = d := rfl
theorem sIx_at (n d i : Nat) (h : i ≤ n) : HT.sIx n d (some (i : Nat)) = i := by
  unfold HT.sIx
  show (if ((i : Nat) : Int) < 0 then (((i : Nat) : Int) + (n : Int)).toNat else min ((i : Nat) : Int).toNat n) = i
  rw [if_neg (by omega)]
  omega
theorem cut_front {x : Str} {i : Nat} (h : i ≤ x.length) : cutS x none (some (i : Nat)) = strSub x 0 i := by
  refine TL.ext_tl ?_
  rw [tl_sub]
  show (x.cps.toList.drop (HT.sIx x.length 0 none)).take (HT.sIx x.length x.length (some (i : Nat)) - HT.sIx x.length 0 none) = _
  rw [sIx_no, sIx_at _ _ _ h]
theorem cut_back {x : Str} {i : Nat} (h : i ≤ x.length) : cutS x (some (i : Nat)) none = strSub x i x.length := by
  refine TL.ext_tl ?_
  rw [tl_sub]
  show (x.cps.toList.drop (HT.sIx x.length 0 (some (i : Nat)))).take (HT.sIx x.length x.length none - HT.sIx x.length 0 (some (i : Nat))) = _
  rw [sIx_no, sIx_at _ _ _ h]
theorem cut_len (z : Str) (lo hi : Option Int) : (cutS z lo hi).length ≤ z.length := by
  rw [len_tl, len_tl]
  show ((z.cps.toList.drop _).take _).length ≤ (TL.tl z).length
  rw [List.length_take, List.length_drop]
  have : z.cps.toList.length = (TL.tl z).length := rfl
  omega
theorem sub_lenS (z : Str) (i j : Nat) : (strSub z i j).length ≤ z.length := by
  rw [len_tl, tl_sub, len_tl, List.length_take, List.length_drop]
  omega
section
variable {X : Cx} {K : PySem.W.Frag} {W : WX}
/-- one text in another -/
def inSG : G2 := fun d e P => ∃ a b, d = .str a ∧ e = .str b ∧ P (.bl (!(occ1 b a).isEmpty))
theorem do_inS : OpR X (compareOp .In) (RD2 K inSG) := by
  intro pins s σ H x y v u Q I rx ry ⟨G, d, e, P, sg, rd, re, ⟨a, b, ed, ee, q⟩, kk⟩
  subst ed ee
  cases (show x = _ from rd)
  cases (show y = _ from re)
  exact op_in_str pins s σ H _ _ v u Q I rx ry ⟨a, b, rfl, rfl, kk _ _ _ _ q (Ext.refl sg) rfl⟩
def idxG : G2 := fun d e P => ∃ a b i r, d = .str a ∧ e = .str b ∧ occ1 a b = i :: r ∧ P (.int (i : Nat))
theorem pd_index {o e : Expr} {Fo Fe : DE} {apos pos : Pos} (ho : PD K W X o Fo) (he : PD K W X e Fe) (hs : starEach [e] X.env = [(false, eval e X.env)] := by rfl) (hbase : attributeBase o "index" X.env (eval o X.env) = eval o X.env := by rfl) (hline : (apos.endLine == pos.line) = true := by rfl) :
    PD K W X (.Call (.Attribute o "index" apos) [e] [] pos) (m1D idxG Fo Fe) := by
  refine PE.imp (pe_m1 PySem.F.slot_str_index PySem.F.type_str_index mt_sindex ho he hs hbase hline) fun σ H Q h => m1_go (fun x y H Q h' => ?_) h
  obtain ⟨G, d, e, P, sg, rd, re, ⟨a, b, i, r, ed, ee, ho, q⟩, kk⟩ := h'
  subst ed ee
  exact ⟨a, b, i, r, rd, by rw [show y = _ from re], ho, kk _ _ _ _ q (Ext.refl sg) rfl⟩
def cntG : G2 := fun d e P => ∃ a b, d = .str a ∧ e = .str b ∧ P (.int (Txt.count a b))
theorem pd_count {o e : Expr} {Fo Fe : DE} {apos pos : Pos} (ho : PD K W X o Fo) (he : PD K W X e Fe) (hs : starEach [e] X.env = [(false, eval e X.env)] := by rfl) (hbase : attributeBase o "count" X.env (eval o X.env) = eval o X.env := by rfl) (hline : (apos.endLine == pos.line) = true := by rfl) :
    PD K W X (.Call (.Attribute o "count" apos) [e] [] pos) (m1D cntG Fo Fe) := by
  refine PE.imp (pe_m1 PySem.F.slot_str_count PySem.F.type_str_count mt_count ho he hs hbase hline) fun σ H Q h => m1_go (fun x y H Q h' => ?_) h
  obtain ⟨G, d, e, P, sg, rd, re, ⟨a, b, ed, ee, q⟩, kk⟩ := h'
  subst ed ee
  exact ⟨a, b, rd, by rw [show y = _ from re], kk _ _ _ _ q (Ext.refl sg) rfl⟩
end
end Vf

set_option Elab.async false
set_option linter.all false
set_option maxRecDepth 100000
set_option maxHeartbeats 1000000
/-! a class's makers, where they stand -/
namespace Vf
open PySem PySem.Spec PyProof.Rows L2
/-- a class's maker: a classmethod, where it stands -/
structure DfC (K : PySem.W.Frag) (mg : Str → Option Value) (x : Str) (C : Addr) (m qual : Str) (st : Stmt) (ps : List Str) (f : Addr) (d : FuncData) : Prop where
  F : Fun K m qual st f d
  b : Binds K d ps []
  r : ∃ mc p, ClX.CRead K C mc ∧ ClX.CMet K C mc m p f
  g : mg x = some (.ref C)
section
variable {P : Program} {w : World} {K : PySem.W.Frag} {mg : Str → Option Value} {base : Heap} {cs : List Addr}
theorem FnOk.toR {k : Nat} {f : Addr} {fd : FuncData} {ps : List Str} {sp : Sp} (F : FnOk P w K mg base CX0 k f fd ps sp) (hb : Binds K fd ps []) : FnR P w K mg base CX0 k f sp := by
  refine FnR.imp (F.raw hb .nil) fun vs H Q E h => ?_
  rw [List.append_nil]
  exact h
end
end Vf

set_option Elab.async false
set_option linter.all false
set_option maxRecDepth 100000
set_option maxHeartbeats 1000000
/-! classmethods that may raise; parameters that hold a class that may not be made -/
namespace Vf
open PySem PySem.Spec PyProof.Rows L2
section
variable {X : Cx} {pins : List (Addr × Obj)} {σ : L2.St} {H : Hp} {s : Shared} {C g : Addr}
theorem run_fnRS {CX : CXT} {k : Nat} {f : Addr} {sp : Sp} {E : XK} {Q : VK} {us : List Value} {vs : List V} (F : FnR X.prog X.w X.K X.mg X.base CX k f sp) (hr : Room k X.A) (hx : PassesAt CX X σ E) (I : Inv X pins σ H s) (r : Vals vs us) (h : sp vs H Q E) :
    codeAny (model X.prog X.w) X.A (.call (.ref f) ⟨us, []⟩) (fun r s' => match r with | .ok (.ret v) => EP X pins σ Q v s' | .ok _ => False | .error e => X.xe e s') s := by
  refine codeAny_mono (F X.A X.stack s H us vs Q E hr I.env0 r h) fun r s' hq => ?_
  cases r with
  | error e => exact hx pins H s e s' I hq
  | ok fl =>
    cases fl with
    | ret u => exact I.after hq
    | next => exact False.elim hq
    | brk => exact False.elim hq
    | cont => exact False.elim hq
theorem run_cmS {CX : CXT} {k : Nat} {q : Addr} {sp : Sp} {E : XK} {Q : VK} {us : List Value} {vs : List V} (F : FnR X.prog X.w X.K X.mg X.base CX k g sp) (hr : Room k X.A) (hx : PassesAt CX X σ E) (I : Inv X ((q, PySem.W.methodObj (.ref g) (.ref C)) :: pins) σ H s)
    (r : Vals vs us) (h : sp (.ref C :: vs) H Q E) : wpAny (model X.prog X.w) X.A (call (.ref q) us) (EP X pins σ Q) X.xe s := by
  have z : wpAny (model X.prog X.w) X.A (call (.ref q) us) (EP X ((q, PySem.W.methodObj (.ref g) (.ref C)) :: pins) σ Q) X.xe s :=
    wpAny_call (PySem.W.method_call (ClX.pin_at I) (run_fnRS (us := .ref C :: us) (vs := .ref C :: vs) F hr hx I (.cons rfl r) h))
  exact thn z fun _ _ y => ClX.unpinE y
end
section
variable {X : Cx} {CX : CXT} {k : Nat} {C p g : Addr} {mc : Value} {sp : Sp} {E : L2.St → XK} {o e : Expr} {es : List Expr} {f m : Str} {pos apos : Pos} {ta : TE} {t : TA} {pl : Sem Bool}
def tCMethS (C : Addr) (sp : Sp) (E : L2.St → XK) (ta : TE) (t : TA) : TE := fun σ H Q => ta σ H fun x H1 => x = .ref C ∧ t σ H1 fun vs H2 => sp (.ref C :: vs) H2 Q (E σ)
theorem pe_cmethS (he : PE X o ta) (r : ClX.CRead X.K C mc) (c : ClX.CMet X.K C mc m p g) (F : FnR X.prog X.w X.K X.mg X.base CX k g sp) (hr : Room k X.A) (hx : ∀ σ, PassesAt CX X σ (E σ)) (ha : PA X (e :: es) t)
    (hst : starEach (e :: es) X.env = (false, eval e X.env) :: starEach es X.env := by rfl) (hpl : (backTo pos (starEach es X.env)).any (·.1) = false := by rfl)
    (ht : eval (.Call (.Attribute o m apos) (e :: es) [] pos) X.env = (do
      let ov ← eval o X.env
      standAt apos.atName
      let (f, first) ← holding [ov] (getMethod ov m pl)
      callWith pos f first (backTo pos (starEach (e :: es) X.env)) (backToKw pos (keywordEach [] X.env))) := by rfl) :
    PE X (.Call (.Attribute o m apos) (e :: es) [] pos) (tCMethS C sp E ta t) := by
  refine ⟨fun pins s σ H Q I h => ?_⟩
  refine PySem.W.methodCall_KW (pl := pl) (thn (he.run pins s σ H _ I h) fun u s1 ⟨x, H1, I1, rx, ex, q⟩ => ?_) ht
  subst ex
  obtain rfl : u = Value.ref C := rx
  refine ClX.getmethcm_ok I1 r c fun s2 I2 => ?_
  refine ClX.callwith_cm I2 (ClX.base_none I1 (Nat.le_refl _)) c.fi (thn (ha.run pos _ s2 σ H1 _ I2 q) fun us s3 ⟨vs, H2, I3, rv, q2⟩ => ⟨⟨ClX.pin_at I3, I3.kIn⟩, ?_⟩) hst hpl
  exact run_cmS F hr (hx σ) I3 rv q2
end
theorem FnOk.toRX {P : Program} {w : World} {K : PySem.W.Frag} {mg : Str → Option Value} {base : Heap} {CXs : CXT} {k : Nat} {f : Addr} {fd : FuncData} {ps : List Str} {sp : Sp} (F : FnOk P w K mg base CXs k f fd ps sp) (hb : Binds K fd ps []) : FnR P w K mg base CXs k f sp := by
  refine FnR.imp (F.raw hb .nil) fun vs H Q E h => ?_
  rw [List.append_nil]
  exact h
section
variable {X : Cx} {K : PySem.W.Frag} {W : WX}
/-- Class.m(..), m a classmethod that may raise -/
structure CalCX (P : Program) (w : World) (K : PySem.W.Frag) (mg : Str → Option Value) (base : Heap) (x : Str) (C : Addr) (m : Str) (k n : Nat) (M : Mc) : Prop where
  ex : ∃ mc p g, ClX.CRead K C mc ∧ ClX.CMet K C mc m p g ∧ FnR P w K mg base (L2.CX P w) k g (spD K n M) ∧ mg x = some (.ref C)
def cmethXD (C : Addr) (n : Nat) (M : Mc) (Fs : DA) : DE := fun ρ P R => Fs ρ (fun ds ρ1 => ds.length + 1 = n ∧ M (.obj C :: ds) (fun r => P r ρ1) fun x => R x ρ1) R
theorem pd_calCX {x : Str} {C : Addr} {m : Str} {k n : Nat} {M : Mc} {px apos pos : Pos} {e : Expr} {es : List Expr} {Fs : DA} {pl : Sem Bool} (tk : Takes X W) (T : CalCX X.prog X.w X.K X.mg X.base x C m k n M) (hr : Room k X.A) (ha : PDA K W X (e :: es) Fs) (hK : X.K = K := by rfl) (hg : Gl X x := by rfl) (hdb : (x == ("__debug__" : Str)) = false := by decide)
    (hst : starEach (e :: es) X.env = (false, eval e X.env) :: starEach es X.env := by rfl) (hpl : (backTo pos (starEach es X.env)).any (·.1) = false := by rfl)
    (ht : eval (.Call (.Attribute (.Name x px) m apos) (e :: es) [] pos) X.env = (do
      let ov ← eval (.Name x px) X.env
      standAt apos.atName
      let (f, first) ← holding [ov] (getMethod ov m pl)
      callWith pos f first (backTo pos (starEach (e :: es) X.env)) (backToKw pos (keywordEach [] X.env))) := by rfl) : PD K W X (.Call (.Attribute (.Name x px) m apos) (e :: es) [] pos) (cmethXD C n M Fs) := by
  subst hK
  obtain ⟨mc, p, g, cr, cm, F, hm⟩ := T.ex
  refine PE.imp (pe_cmethS (pe_glob (v := .ref C) hg hm rfl hdb) cr cm F hr (fun σ => passAt tk σ) ha hst hpl ht) fun σ H Q ⟨c, G, ρ, P, R, r, f, k, kx⟩ => ?_
  refine ⟨rfl, c, G, ρ, _, R, r, f, fun ds ρ1 vs H1 G1 f1 r1 s1 q1 => ?_, kx⟩
  exact ⟨G1, .obj C :: ds, _, _, r1.gh, RpAll.cons rfl q1, f1.1, f1.2, fun d v H' G' p ex rp => k _ _ _ _ _ p (r1.ext ex) (s1.trans ex.g) rp, fun y e v H' G' z ex rp ne => kx _ _ _ _ _ _ z (r1.ext ex) (s1.trans ex.g) rp ne⟩
/-- .. in a frame that hears no error: it never raises there -/
theorem pd_calCXn {x : Str} {C : Addr} {m : Str} {k n : Nat} {M : Mc} {px apos pos : Pos} {e : Expr} {es : List Expr} {Fs : DA} {pl : Sem Bool} (T : CalCX X.prog X.w X.K X.mg X.base x C m k n M) (hr : Room k X.A) (ha : PDA K W X (e :: es) Fs) (hK : X.K = K := by rfl) (hg : Gl X x := by rfl) (hdb : (x == ("__debug__" : Str)) = false := by decide)
    (hst : starEach (e :: es) X.env = (false, eval e X.env) :: starEach es X.env := by rfl) (hpl : (backTo pos (starEach es X.env)).any (·.1) = false := by rfl)
    (ht : eval (.Call (.Attribute (.Name x px) m apos) (e :: es) [] pos) X.env = (do
      let ov ← eval (.Name x px) X.env
      standAt apos.atName
      let (f, first) ← holding [ov] (getMethod ov m pl)
      callWith pos f first (backTo pos (starEach (e :: es) X.env)) (backToKw pos (keywordEach [] X.env))) := by rfl) : PD K W X (.Call (.Attribute (.Name x px) m apos) (e :: es) [] pos) (cmethD C n M Fs) := by
  subst hK
  obtain ⟨mc, p, g, cr, cm, F, hm⟩ := T.ex
  refine PE.imp (pe_cmethS (E := fun _ => E0) (pe_glob (v := .ref C) hg hm rfl hdb) cr cm F hr (fun σ pins H s e s' I c => by obtain ⟨_, _, _, _, _, _, _, _, _, _, _, _, z⟩ := c; exact z.elim) ha hst hpl ht) fun σ H Q ⟨c, G, ρ, P, R, r, f, k, kx⟩ => ?_
  refine ⟨rfl, c, G, ρ, _, R, r, f, fun ds ρ1 vs H1 G1 f1 r1 s1 q1 => ?_, kx⟩
  exact ⟨G1, .obj C :: ds, _, _, r1.gh, RpAll.cons rfl q1, f1.1, f1.2, fun d v H' G' p ex rp => k _ _ _ _ _ p (r1.ext ex) (s1.trans ex.g) rp, fun _ _ _ _ _ z => z.elim⟩
/-- parameter(..), a class that may not be made -/
theorem pe_makeLS {CX : CXT} {E : L2.St → XK} {i k : Nat} {f C : Addr} {fd : FuncData} {ps : List Str} {sp : Sp} {x : Str} {p pos : Pos} {e : Expr} {es : List Expr} {t : TA} (M : Mk X.K C f) (F : FnOk X.prog X.w X.K X.mg X.base CX k f fd ps sp) (hr : Room (k + 1) X.A) (hN : X.N[i]? = some x) (hv : Vis X.env.scope x)
    (hb : Binds X.K fd ps []) (px : ∀ σ, PassesAt CX X σ (E σ)) (ha : PA X (e :: es) t) (hdb : (x == ("__debug__" : Str)) = false := by decide) (hcd : (x == ("__classdict__" : Str)) = false := by decide)
    (he : starEach (e :: es) X.env = (false, eval e X.env) :: starEach es X.env := by rfl) (hpl : (backTo pos (starEach es X.env)).any (·.1) = false := by rfl) :
    PE X (.Call (.Name x p) (e :: es) [] pos) (fun σ H Q => σ[i]? = some (some (.ref C)) ∧ tMakeS C sp E t σ H Q) := by
  refine ⟨fun pins s σ H Q I h => ?_⟩
  obtain ⟨hs, ht⟩ := h
  refine wpAny_Call_Name_kw (thn ((pe_var (pos := p) hN hv hdb hcd).run pins s σ H (fun v H1 => v = .ref C ∧ H1 = H) I ⟨.ref C, hs, rfl, rfl⟩) fun u s1 ⟨v, H1, I1, r1, q1⟩ => ?_)
  obtain ⟨rfl, rfl⟩ := q1
  cases r1
  refine PySem.W.callWith_K (h₀ := X.base) I1.ok.mod.kin M.kp (thn (ha.run pos pins s1 σ _ _ I1 ht) fun us s2 ⟨vs, H2, I2, r, q⟩ => ⟨I2.kIn, ?_⟩) he hpl
  exact run_mkS M F hr hb (px σ) I2 r q
def makeLXD (i : Nat) (C : Addr) (n : Nat) (M : Mi) (Fs : DA) : DE := fun ρ P R => ρ[i]? = some (.val (.obj C)) ∧ makeXD C n M Fs ρ P R
theorem pd_makeLX {y : Str} {i k n : Nat} {C : Addr} {M : Mi} {x : Str} {p pos : Pos} {e : Expr} {es : List Expr} {Fs : DA} (tk : Takes X W) (T : CalIX X.prog X.w X.K X.mg X.base y C k n M) (hr : Room (k + 1) X.A) (ha : PDA K W X (e :: es) Fs) (hK : X.K = K := by rfl)
    (hN : X.N[i]? = some x := by rfl) (hv : Vis X.env.scope x := by first | exact Or.inl rfl | exact Or.inr (Or.inl rfl) | exact Or.inr (Or.inr rfl)) (hdb : (x == ("__debug__" : Str)) = false := by decide) (hcd : (x == ("__classdict__" : Str)) = false := by decide)
    (he : starEach (e :: es) X.env = (false, eval e X.env) :: starEach es X.env := by rfl) (hpl : (backTo pos (starEach es X.env)).any (·.1) = false := by rfl) : PD K W X (.Call (.Name x p) (e :: es) [] pos) (makeLXD i C n M Fs) := by
  subst hK
  obtain ⟨f, fd, ps, F, mk, _, hb⟩ := T.ex
  refine PE.imp (pe_makeLS mk F hr hN hv hb (fun σ => passAt tk σ) ha hdb hcd he hpl) fun σ H Q ⟨c, G, ρ, P, R, r, ⟨e1, f⟩, k, kx⟩ => ?_
  obtain ⟨v, ev, q⟩ := r.val e1
  cases (show v = .ref C from q)
  refine ⟨ev, c, G, ρ, _, R, r, f, fun ds ρ1 vs H1 G1 f1 r1 s1 q1 x dx hx hd hne => ?_, kx⟩
  refine ⟨G1, x, dx, vs, ds, _, _, rfl, upd_same, r1.gh.free hx, made_in r1 hx hd hne, q1, f1.1, f1.2, fun ns fs us' H' G' pf eh en ra kp sg gh gx nw => ⟨rfl, ?_⟩, fun y e v H' G' z kp sg gh nw gx nx rp ne => ?_⟩
  · have ex := made_end r1 hx hd hne (C := C) (us := us') (by exact eh) kp sg gh gx nw
    exact k _ _ _ _ _ pf (r1.ext ex) (s1.trans ex.g) ⟨x, dx, us', rfl, upd_same, en, ra.mono (same_new gx)⟩
  · have ex : Ext H1 G1 H' G' := ⟨fun a o ea => by
      have n1 : a ≠ x := fun z => by rw [z, hx] at ea; cases ea
      have n2 : a ≠ dx := fun z => by rw [z, hd] at ea; cases ea
      exact kp a o n1 (by rw [upd_ne n1, upd_ne n2]; exact ea), sg, gh, fun a ha => (nw a ha).imp id fun z => by
      by_cases n1 : a = x
      · rw [n1]; exact hx
      · rw [upd_ne n1] at z
        by_cases n2 : a = dx
        · rw [n2]; exact hd
        · rw [upd_ne n2] at z; exact z⟩
    exact kx y ρ1 e v H' G' z (r1.ext ex) (s1.trans ex.g) rp ne
end
end Vf

set_option Elab.async false
set_option linter.all false
set_option maxRecDepth 100000
set_option maxHeartbeats 1000000
/-! objects with a text and an == of their own, by data -/
namespace Vf
open PySem PySem.Spec PyProof.Rows L2
section
variable {X : Cx} {K : PySem.W.Frag} {W : WX}
/-- a class with its own text -/
structure CalS (P : Program) (w : World) (K : PySem.W.Frag) (mg : Str → Option Value) (base : Heap) (C : Addr) (k : Nat) (M : Mc) : Prop where
  ex : ∃ f fE fd ps, OwnTxt K C fE f ∧ FnOk P w K mg base CX0 k f fd ps (spD K 1 M) ∧ Binds K fd ps []
def strOG (C : Addr) (M : Mc) : Gn := one fun d P => ∃ ns ds, d = .ins C ns ds ∧ M [d] (fun r => ∃ z, r = .str z ∧ P (.str z)) noX
theorem do_strO {C : Addr} {k : Nat} {M : Mc} (hK : X.K = K) (T : CalS X.prog X.w X.K X.mg X.base C k M) (hr : Room (k + 2) X.A) : CallR X (.type "str") (RDn K (strOG C M)) := by
  refine call_one fun pins s σ H v us Q I rv hh => ?_
  subst hK
  obtain ⟨G, d, P, sg, rd, ⟨ns, ds, rfl, m⟩, kk⟩ := hh
  obtain ⟨f, fE, fd, ps, T, F, hb⟩ := T.ex
  obtain ⟨a, dx, us', rfl, ea, en, ra⟩ := rd
  refine call_strO (E := E0) T F hb pass0 hr pins s σ H _ us Q I rv ⟨a, dx, us', rfl, sg _ _ ea, ?_⟩
  refine ⟨G, [.ins C ns ds], _, _, sg, RpAll.cons ⟨a, dx, us', rfl, ea, en, ra⟩ RpAll.nil, rfl, m, fun d v H' G' p ex rp => ?_, fun x e v H' G' z ex rp ne => z.elim⟩
  obtain ⟨z, rfl, p⟩ := p
  exact ⟨z, rp, kk _ _ _ _ p ex rfl⟩
end
section
variable {X : Cx} {K : PySem.W.Frag} {W : WX}
theorem self_first {K : PySem.W.Frag} {C : Addr} : PySem.W.notFirst K C (.ref C) = true := by
  unfold PySem.W.notFirst
  rw [beq_self_eq_true]
  rfl
/-- a class with its own == -/
structure CalE (P : Program) (w : World) (K : PySem.W.Frag) (mg : Str → Option Value) (base : Heap) (C : Addr) (k : Nat) (M : Mc) : Prop where
  ex : ∃ f fS fd ps, OwnTxt K C f fS ∧ FnOk P w K mg base CX0 k f fd ps (spD K 2 M) ∧ Binds K fd ps []
def eqOG (neg : Bool) (C : Addr) (M : Mc) : G2 := fun d e P => ∃ ns ds ms es, d = .ins C ns ds ∧ e = .ins C ms es ∧ M [d, e] (fun r => ∃ b, r = .bl b ∧ P (.bl (if neg then !b else b))) noX
theorem do_eqO {C : Addr} {k : Nat} {M : Mc} {cs : List Addr} (hK : X.K = K) (TC : ClsTab K cs) (hC : C ∈ cs) (T : CalE X.prog X.w X.K X.mg X.base C k M) (hr : Room k X.A) : OpR X (compareOp .Eq) (RD2 K (eqOG false C M)) := by
  intro pins s σ H x y v u Q I rx ry ⟨G, d, e, P, sg, rd, re, ⟨ns, ds, ms, es, ed, ee, m⟩, kk⟩
  subst hK
  subst ed ee
  obtain ⟨f, fS, fd, ps, T, F, hb⟩ := T.ex
  obtain ⟨a, dx, us, rfl, ea, en, ra⟩ := rd
  obtain ⟨b, dy, vs, rfl, eb, em, rb⟩ := re
  refine op_eqO (E := E0) T F hb pass0 hr pins s σ H _ _ v u Q I rx ry ⟨a, dx, us, .ref C, rfl, sg _ _ ea, TC.ty C hC H b dy vs (sg _ _ eb), self_first, ?_⟩
  refine ⟨G, [.ins C ns ds, .ins C ms es], _, _, sg, RpAll.cons ⟨a, dx, us, rfl, ea, en, ra⟩ (RpAll.cons ⟨b, dy, vs, rfl, eb, em, rb⟩ RpAll.nil), rfl, m, fun d v H' G' p ex rp => ?_, fun x e v H' G' z ex rp ne => z.elim⟩
  obtain ⟨b, rfl, p⟩ := p
  exact ⟨b, rp, kk _ _ _ _ p ex rfl⟩
theorem do_neO {C : Addr} {k : Nat} {M : Mc} {cs : List Addr} (hK : X.K = K) (TC : ClsTab K cs) (hC : C ∈ cs) (T : CalE X.prog X.w X.K X.mg X.base C k M) (hr : Room (k + 1) X.A) : OpR X (compareOp .NotEq) (RD2 K (eqOG true C M)) := by
  intro pins s σ H x y v u Q I rx ry ⟨G, d, e, P, sg, rd, re, ⟨ns, ds, ms, es, ed, ee, m⟩, kk⟩
  subst hK
  subst ed ee
  obtain ⟨f, fS, fd, ps, T, F, hb⟩ := T.ex
  obtain ⟨a, dx, us, rfl, ea, en, ra⟩ := rd
  obtain ⟨b, dy, vs, rfl, eb, em, rb⟩ := re
  refine op_neO (E := E0) T F hb pass0 hr pins s σ H _ _ v u Q I rx ry ⟨a, dx, us, .ref C, rfl, sg _ _ ea, TC.ty C hC H b dy vs (sg _ _ eb), self_first, ?_⟩
  refine ⟨G, [.ins C ns ds, .ins C ms es], _, _, sg, RpAll.cons ⟨a, dx, us, rfl, ea, en, ra⟩ (RpAll.cons ⟨b, dy, vs, rfl, eb, em, rb⟩ RpAll.nil), rfl, m, fun d v H' G' p ex rp => ?_, fun x e v H' G' z ex rp ne => z.elim⟩
  obtain ⟨b, rfl, p⟩ := p
  exact ⟨b, rp, kk _ _ _ _ p ex rfl⟩
end
end Vf

set_option Elab.async false
set_option linter.all false
set_option maxRecDepth 100000
set_option maxHeartbeats 1000000
/-! steps: their texts, == -/
namespace Vf
open PySem PySem.Spec PyProof.Rows L2
section
variable {P : Program} {w : World} {K : PySem.W.Frag} {mg : Str → Option Value} {base : Heap} {cs : List Addr}
theorem cal_stepStr {C f fE : Addr} {fd : FuncData} (F : Fun K "__str__" "Step.__str__" sStepStr f fd) (hb : Binds K fd ["self"] []) (O : OwnTxt K C fE f) (T : StepC K mg C) : CalS P w K mg base C 1 (stepStrM C) := ⟨f, fE, fd, _, O, ok_stepStr F T, hb⟩
end
end Vf

set_option Elab.async false
set_option linter.all false
set_option maxRecDepth 100000
set_option maxHeartbeats 1000000
/-! steps: == -/
namespace Vf
open PySem PySem.Spec PyProof.Rows L2
section
variable {P : Program} {w : World} {K : PySem.W.Frag} {mg : Str → Option Value} {base : Heap} {cs : List Addr}
def stepEqM (C : Addr) : Mc := fun ds P _ => ∃ r1 r2 : Row, ds = [stepD C r1, stepD C r2] ∧ GoodRow r1.1 r1.2.1 r1.2.2 ∧ GoodRow r2.1 r2.2.1 r2.2.2 ∧ P (.bl (decide (stepS r1.1 r1.2.1 r1.2.2 = stepS r2.1 r2.2.1 r2.2.2)))
abbrev nStepEq : List Str := ["self", "other"]
theorem scStepEq : FnScope nStepEq ["self", "other"] (defScope sStepEq) := ⟨rfl, rfl, rfl, by decide +kernel, rfl, by decide +kernel, by decide +kernel⟩
theorem cal_stepEq {C f fS : Addr} {fd : FuncData} (F : Fun K "__eq__" "Step.__eq__" sStepEq f fd) (hb : Binds K fd ["self", "other"] []) (O : OwnTxt K C f fS) (T : StepC K mg C) (TC : ClsTab K cs) (hC : C ∈ cs) (B : Bt mg) (S : CalS P w K mg base C 1 (stepStrM C)) : CalE P w K mg base C 4 (stepEqM C) := by
  refine ⟨f, fS, fd, _, O, okD F scStepEq rfl (fun cdv A outer s H E hr => ?_), hb⟩
  refine ⟨_, (pds_one (pds_ret (pd_and (pd_blt (do_isi rfl TC) B.isinstance (pda_cons (pd_var 1) (pda_cons (pd_con (pe_glob (v := .ref C) rfl T.g rfl) (fun _ => rfl) (d := .obj C)) pda_nil))) (pd_one (pd_cmp (do_eq rfl hr.units) (pd_bty (do_strO rfl S hr) B.str (pda_cons (pd_var 0) pda_nil)) (pd_bty (do_strO rfl S hr) B.str (pda_cons (pd_var 1) pda_nil))))))), ?_⟩
  rintro ds P' R _ ⟨r1, r2, rfl, g1, g2, p⟩
  have ok2 : okTy cs (stepD C r2) = true := by
    show cs.contains C = true
    rw [List.contains_iff_mem]
    exact hC
  refine ⟨true, ?_, ?_⟩
  · rw [one_cls ok2 hC]
    show some (C == C) = _
    rw [beq_self_eq_true]
  · refine ⟨_, rfl, ?_⟩
    refine iteT ⟨_, _, rfl, r1, rfl, g1, _, rfl, _, _, rfl, r2, rfl, g2, _, rfl, .inl rfl, ?_⟩
    rw [eq_dec]
    exact p
end
end Vf

set_option Elab.async false
set_option linter.all false
set_option maxRecDepth 100000
set_option maxHeartbeats 1000000
/-! Step.read of any text -/
namespace Vf
open PySem PySem.Spec PyProof.Rows L2
/-- the class InvalidText -/
structure IsAt (K : PySem.W.Frag) (mg : Str → Option Value) (CN fN : Addr) (dN : FuncData) : Prop where
  X : XC K mg "InvalidText" CN fN "at"
  F : Fun K "__init__" "InvalidText.__init__" sInvalidTextInit fN dN
  b : XBinds K dN "at"
  ty : PySem.W.typeIn K (.ref CN) = some (.type "type")
theorem dig_fold : ∀ (cs : List Nat) (a : Nat), (∀ c ∈ cs, c ≤ 57) → cs.foldl (fun acc c => acc * 10 + (c - 48)) a < (a + 1) * 10 ^ cs.length
  | [], a, _ => by simp
  | c :: cs, a, h => by
    rw [List.foldl_cons]
    have h1 := h c List.mem_cons_self
    refine Nat.lt_of_lt_of_le (dig_fold cs _ fun x hx => h x (List.mem_cons_of_mem _ hx)) ?_
    rw [List.length_cons, Nat.pow_succ, Nat.mul_comm (10 ^ cs.length) 10, ← Nat.mul_assoc]
    exact Nat.mul_le_mul_right _ (by omega)
theorem numB_facts {w : Str} {n : Int} (h : numB w = some n) : 0 ≤ n ∧ n < 10 ^ 19 := by
  unfold numB at h
  split at h
  · rename_i hc
    rw [Bool.and_eq_true, Bool.and_eq_true, decide_eq_true_eq, decide_eq_true_eq] at hc
    split at h
    · cases h
    · have hd : ∀ c ∈ w.cps.toList, 48 ≤ c ∧ c ≤ 57 := fun c hc' => by
        have h2 := hc.2
        unfold digsB at h2
        rw [List.all_eq_true] at h2
        have := h2 _ (List.mem_map.mpr ⟨c, hc', rfl⟩)
        simp only [id, decide_eq_true_eq] at this
        have q : ∀ c ∈ digitL.cps.toList, 48 ≤ c ∧ c ≤ 57 := by decide +kernel
        exact q c this
      have hne : w.cps.toList ≠ [] := fun e => by
        have : w.length = w.cps.toList.length := by simp [Str.length]
        rw [e] at this
        have h1 := hc.1.1
        rw [this] at h1
        exact absurd h1 (by decide)
      rw [PySem.intText_digits (x := w) hd hne (by omega)] at h
      cases h
      refine ⟨by omega, ?_⟩
      have e := dig_fold w.cps.toList 0 fun c hc' => (hd c hc').2
      have el : w.cps.toList.length = w.length := by simp [Str.length]
      rw [el, Nat.zero_add, Nat.one_mul] at e
      have e2 : (10 : Nat) ^ w.length ≤ 10 ^ 19 := Nat.pow_le_pow_right (by decide) hc.1.2
      have e3 : (w.cps.toList.foldl (fun acc c => acc * 10 + (c - 48)) 0 : Nat) < 10 ^ 19 := Nat.lt_of_lt_of_le e e2
      show ((w.cps.toList.foldl (fun acc c => acc * 10 + (c - 48)) 0 : Nat) : Int) < 10 ^ 19
      have : ((10 ^ 19 : Nat) : Int) = (10 : Int) ^ 19 := by rw [Int.natCast_pow]; rfl
      rw [← this]
      exact Int.ofNat_lt.mpr e3
  · cases h
/-- what is known of a line that tells a step -/
structure Told (z : Str) (r : Row) : Prop where
  nm : nameB r.1 = true
  ne : r.2.1 ≠ []
  pn : ∀ p ∈ r.2.1, nameB p = true
  pl : r.2.1.length ≤ z.length + 1
  an : ∀ q ∈ r.2.2, nameB q.1 = true ∧ nameB q.2.1 = true ∧ 0 ≤ q.2.2 ∧ q.2.2 < 10 ^ 19
theorem arrB_facts {z : Str} {t : Tri} (h : arrB z = some t) : nameB t.1 = true ∧ nameB t.2.1 = true ∧ 0 ≤ t.2.2 ∧ t.2.2 < 10 ^ 19 := by
  obtain ⟨h1, h2⟩ := arrB_names h
  refine ⟨h1, h2, ?_⟩
  unfold arrB at h
  split at h
  · rename_i a b c e
    split at h
    · cases hn : numB c with
      | none => rw [hn] at h; cases h
      | some n =>
        rw [hn] at h
        cases h
        exact numB_facts hn
    · cases h
  · cases h
theorem allSome_mem {α : Type} : ∀ {l : List (Option α)} {r : List α}, allSome l = some r → ∀ x ∈ r, some x ∈ l
  | [], r, h, x, hx => by cases h; cases hx
  | none :: _, r, h, x, hx => by cases h
  | some a :: l, r, h, x, hx => by
    have h : (allSome l).map (fun r => a :: r) = some r := h
    cases e : allSome l with
    | none => rw [e] at h; cases h
    | some r' =>
      rw [e] at h
      cases h
      rcases List.mem_cons.mp hx with rfl | hx
      · exact List.mem_cons_self
      · exact List.mem_cons_of_mem _ (allSome_mem e x hx)
theorem stepB_told {z : Str} {r : Row} (h : stepB z = some r) : Told z r := by
  unfold stepB at h
  obtain ⟨l1, _, _⟩ := part_len z " go "
  generalize hq : Txt.partition z " go " = q at h l1
  have hn := split_le q.1 " "
  generalize hw : Txt.split q.1 " " = ws at h hn
  match ws, h, hn with
  | [], h, _ => cases h
  | [_], h, _ => cases h
  | [_, _], h, _ => cases h
  | a :: m :: b :: bs, h, hn =>
    have h : (if (decide (m = "at") && (nameB a && (b :: bs).all nameB)) = true then (arrsB q).map fun ar => (a, b :: bs, ar) else none) = some r := h
    split at h
    · rename_i hc
      rw [Bool.and_eq_true, Bool.and_eq_true] at hc
      cases e : arrsB q with
      | none => rw [e] at h; cases h
      | some ar =>
        rw [e] at h
        cases h
        refine ⟨hc.2.1, by simp, fun p hp => List.all_eq_true.mp hc.2.2 p hp, by simp only [List.length_cons] at hn ⊢; omega, fun t ht => ?_⟩
        unfold arrsB at e
        split at e
        · cases e
          cases ht
        · have := allSome_mem e t ht
          obtain ⟨p, _, hp⟩ := List.mem_map.mp this
          exact arrB_facts hp
    · cases h
/-- what is wrong with a step told -/
def wrongR (r : Row) : Option Str := wrongW (.str r.1) (.lst (r.2.1.map .str)) (.lst (r.2.2.map triD'))
theorem strsOf_lst (ps : List Str) : strsOf (.lst (ps.map .str)) = ps := by
  unfold strsOf
  show (strL (ps.map D.str)).getD [] = ps
  rw [strL_map]
  rfl
theorem Told.good {z : Str} {r : Row} (t : Told z r) (hz : z.length ≤ 3000) (ha : r.2.2.length ≤ 60) (h : wrongR r = none) : GoodRow r.1 r.2.1 r.2.2 := by
  unfold wrongR wrongW at h
  split at h
  · split at h
    · rename_i _ hp
      split at h
      · rename_i har
        rw [strsOf_lst] at har
        obtain ⟨ps, e1, _, _, nd, _⟩ := places_inv hp
        have e1 : some (r.2.1.map D.str) = some (ps.map D.str) := e1
        injection e1 with e1
        have e1 : r.2.1 = ps := by
          have := congrArg strL e1
          rw [strL_map, strL_map] at this
          injection this
        subst e1
        obtain ⟨ts, e2, ao, ad⟩ := arrs_inv har
        have e2 : some (r.2.2.map triD') = some (ts.map triD') := e2
        injection e2 with e2
        have e2 : r.2.2 = ts := by
          have := congrArg tris e2
          rw [tris_map, tris_map] at this
          injection this
        subst e2
        exact ⟨t.nm, t.ne, t.pn, nd, by have := t.pl; omega, ao, ad, ha, fun q hq => Int.lt_trans (t.an q hq).2.2.2 (by decide)⟩
      · cases h
    · cases h
  · cases h
section
variable {P : Program} {w : World} {K : PySem.W.Frag} {mg : Str → Option Value} {base : Heap} {cs : List Addr}
theorem scInvalidTextInit : FnScope ["self", "at"] ["self", "at"] (defScope sInvalidTextInit) := ⟨rfl, rfl, rfl, by decide +kernel, rfl, by decide +kernel, by decide +kernel⟩
theorem ok_invalidTextInit {x : Str} {C f : Addr} {fd : FuncData} (F : Fun K "__init__" "InvalidText.__init__" sInvalidTextInit f fd) (T : XC K mg x C f "at") : FnOk P w K mg base CX0 1 f fd ["self", "at"] (spXI C "at") := by
  refine F.ok scInvalidTextInit (fun vs H Q E h => ?_) (fun cdv A outer s H vs Q E hr h => ?_)
  · obtain ⟨a, v, rfl, _⟩ := h
    rfl
  · obtain ⟨a, v, rfl, ha, k⟩ := h
    exact ⟨_, pss_one (ps_setX T (pv 0) (pv 1)), _, rfl, _, rfl, a, rfl, ha, fun dx h1 h2 => k dx h1 h2⟩
/-- what Step.read answers -/
def readP (C CI CT : Addr) (z : Str) (P : D → Prop) (R : Xd → Prop) : Prop := match stepB z with
  | none => R ⟨CT, "at", .int 0⟩
  | some r => match wrongR r with
    | some w => R ⟨CI, "word", .str w⟩
    | none => ∀ ps' ts', ps'.Perm r.2.1 → Asc ltS ps' → ts'.Perm r.2.2 → Asc ltT ts' → P (stepD C (r.1, ps', ts'))
def ReadOk (z : Str) : Prop := z.length ≤ 3000 ∧ ∀ r, stepB z = some r → r.2.2.length ≤ 60
def stepReadM (C CI CT : Addr) : Mc := fun ds P R => ∃ z, ds = [.obj C, .str z] ∧ ReadOk z ∧ readP C CI CT z P R
abbrev nStepRead : List Str := ["cls", "text", "parts", "name", "places", "arrows"]
theorem scStepRead : FnScope nStepRead ["cls", "text"] (defScope sStepRead) := ⟨rfl, rfl, rfl, by decide +kernel, rfl, by decide +kernel, by decide +kernel⟩
theorem cal_stepRead {C f CI CT fX : Addr} {fd dX : FuncData} (F : DfC K mg "Step" C "read" "Step.read" sStepRead ["cls", "text"] f fd) (C_step_told : Cal0 P w K mg base "step_told" 3 1 stepToldM) (I_Step : CalIX P w K mg base "Step" C 5 3 (stepAnyM CI)) (N : IsAt K mg CT fX dX) : CalCX P w K mg base "Step" C "read" 7 2 (stepReadM C CI CT) := by
  have GX : FnOk P w K mg base CX0 1 fX dX ["self", "at"] (spXI CT "at") := ok_invalidTextInit N.F N.X
  obtain ⟨mc, p, r1, r2⟩ := F.r
  refine ⟨mc, p, f, r1, r2, FnOk.toRX (okX (n := 2) F.F scStepRead rfl (fun cdv A outer s H E hr => ?_)) F.b, F.g⟩
  have tk := takes_of (X := cxOf (L2.CX P w) P w K mg base nStepRead "Step.read" (defScope sStepRead) f cdv A outer s H E) rfl rfl rfl rfl
  refine ⟨_, (pds_cons (pds_set (i := 2) scStepRead.nd (pd_cal C_step_told (hr.mono (by decide)) (pda_cons (pd_var 1) pda_nil)))
      (pds_cons (pds_if (pdt_cmp do_isN (pd_var 2) pd_non)
      (pds_one (pds_raise tk N.X (raises_own N.X.ex.hs N.ty) GX (hr.mono (by decide)) N.b pd_int)) pds_nil)
      (pds_cons (pds_asg (pd_var 2) (pg_tup rfl (pgs_cons (pg_name (i := 3) scStepRead.nd rfl (by first | exact .inl rfl | exact .inr rfl)) (pgs_cons (pg_name (i := 4) scStepRead.nd rfl (by first | exact .inl rfl | exact .inr rfl)) (pgs_cons (pg_name (i := 5) scStepRead.nd rfl (by first | exact .inl rfl | exact .inr rfl)) pgs_nil)))) (tg_tp (tgs_cons (tg_nm 3) (tgs_cons (tg_nm 4) (tgs_cons (tg_nm 5) tgs_nil)))))
      (pds_one (pds_ret (pd_makeLX (i := 0) tk I_Step (hr.mono (by decide)) (pda_cons (pd_var 3) (pda_cons (pd_var 4) (pda_cons (pd_var 5) pda_nil))))))))), ?_⟩
  rintro ds P' R _ ⟨z, rfl, ⟨hz, ha⟩, q⟩
  refine ⟨rfl, z, rfl, by omega, ?_⟩
  dsimp only
  unfold readP at q
  cases e : stepB z with
  | none =>
    rw [e] at q
    exact ⟨rfl, _, rfl, iteT q⟩
  | some r =>
    rw [e] at q
    have t := stepB_told e
    have al := ha r e
    have pl := t.pl
    refine ⟨rfl, _, rfl, iteF ⟨_, rfl, rfl, rfl, rfl, rfl, .str r.1, .lst (r.2.1.map .str), .lst (r.2.2.map triD'), 2, rfl, nameB_sh t.nm, ?_, ?_, by decide, ?_, ?_, ?_, ?_⟩⟩
    · exact shN_lst (n := 1) (fun d hd => by
        obtain ⟨p, hp, rfl⟩ := List.mem_map.mp hd
        exact nameB_sh (t.pn p hp)) (by rw [List.length_map]; omega)
    · exact shN_lst (n := 1) (fun d hd => by
        obtain ⟨p, hp, rfl⟩ := List.mem_map.mp hd
        exact sh_tri ⟨(t.an p hp).1, (t.an p hp).2.1⟩) (by rw [List.length_map]; omega)
    · intro l e
      cases e
      rw [List.length_map]
      omega
    · intro l e
      cases e
      rw [List.length_map]
      exact al
    · intro y e
      cases e
      have := (nameB_facts t.nm).2.1
      omega
    · have q : (match wrongR r with
        | some w => R ⟨CI, "word", .str w⟩
        | none => ∀ ps' ts', ps'.Perm r.2.1 → Asc ltS ps' → ts'.Perm r.2.2 → Asc ltT ts' → P' (stepD C (r.1, ps', ts'))) := q
      cases ew : wrongR r with
      | some w =>
        rw [ew] at q
        exact .inl ⟨w, ew, q⟩
      | none =>
        rw [ew] at q
        refine .inr ⟨ew, fun t ps ts ps' ts' e1 _ e2 e3 pp pa tp ta => ?_⟩
        cases e1
        have e2 : some (r.2.1.map D.str) = some (ps.map D.str) := e2
        injection e2 with e2
        have e2 : r.2.1 = ps := by
          have := congrArg strL e2
          rw [strL_map, strL_map] at this
          injection this
        have e3 : some (r.2.2.map triD') = some (ts.map triD') := e3
        injection e3 with e3
        have e3 : r.2.2 = ts := by
          have := congrArg tris e3
          rw [tris_map, tris_map] at this
          injection this
        subst e2 e3
        exact q ps' ts' pp pa tp ta
end
end Vf

set_option Elab.async false
set_option linter.all false
set_option maxRecDepth 100000
set_option maxHeartbeats 1000000
/-! the law's own look at words; its texts of steps -/
namespace Vf
open PySem PySem.Spec PyProof.Rows L2
/-- a sign that is none of these -/
def oddIn (a : Str) : D → Option D
  | .str w => if (w.cps.toList.all fun c => decide (c ∈ a.cps.toList)) = true then none else some (.str w)
  | _ => none
theorem oddIn_at (a : Str) (c : Nat) : oddIn a (.str ⟨#[c]⟩) = if decide (c ∈ a.cps.toList) = true then none else some (.str ⟨#[c]⟩) := by
  show (if (decide (c ∈ a.cps.toList) && true) = true then none else some (D.str ⟨#[c]⟩)) = _
  rw [Bool.and_true]
theorem oddIn_none (a : Str) (l : List Nat) : ((l.map fun c => D.str ⟨#[c]⟩).filterMap (oddIn a)).isEmpty = (l.map fun c => decide (c ∈ a.cps.toList)).all id := by
  induction l with
  | nil => rfl
  | cons c l ih =>
    rw [List.map_cons, List.map_cons, List.filterMap_cons, List.all_cons, oddIn_at]
    by_cases h : c ∈ a.cps.toList
    · rw [if_pos (decide_eq_true h), decide_eq_true h]
      simpa using ih
    · rw [if_neg (by rw [decide_eq_false h]; exact Bool.false_ne_true), decide_eq_false h]
      rfl
theorem oddIn_sh {a z : Str} (h : PyData.strOk z = true) : ∀ d ∈ (z.cps.toList.map fun c => D.str ⟨#[c]⟩).filterMap (oddIn a), shN 0 d = true := by
  intro d hd
  obtain ⟨x, hx, e⟩ := List.mem_filterMap.mp hd
  obtain ⟨c, hc, rfl⟩ := List.mem_map.mp hx
  have h := h
  unfold PyData.strOk at h
  rw [← Array.all_toList, List.all_eq_true] at h
  rw [oddIn_at] at e
  by_cases hl : decide (c ∈ a.cps.toList) = true
  · rw [if_pos hl] at e
    cases e
  · rw [if_neg hl] at e
    cases e
    show (PyData.strOk ⟨#[c]⟩ && decide ((⟨#[c]⟩ : Str).length ≤ 1000000)) = true
    rw [Bool.and_eq_true]
    refine ⟨?_, rfl⟩
    unfold PyData.strOk
    rw [← Array.all_toList, List.all_eq_true]
    intro y hy
    have : y = c := by simpa using hy
    rw [this]
    exact h c hc
/-- the list of what is odd may be compared -/
theorem oddIn_shL {a z : Str} (h : PyData.strOk z = true) (hz : z.length ≤ 1000000) : shN 1 (.lst ([] ++ (z.cps.toList.map fun c => D.str ⟨#[c]⟩).filterMap (oddIn a))) = true := by
  rw [List.nil_append]
  refine shN_lst (n := 0) (oddIn_sh h) ?_
  refine Nat.le_trans (List.length_filterMap_le _ _) ?_
  rw [List.length_map, Array.length_toList]
  exact hz
section
variable {P : Program} {w : World} {K : PySem.W.Frag} {mg : Str → Option Value} {base : Heap} {cs : List Addr}
def isTitle4M : Mc := fun ds P _ => ∃ z, ds = [.str z] ∧ PyData.strOk z = true ∧ z.length ≤ 900000 ∧ P (.bl (nameB z))
abbrev nIsTitle : List Str := ["_law_word", "_law_strange", "_law_sign"]
theorem scIsTitle : FnScope nIsTitle ["_law_word"] (defScope sIsTitle) := ⟨rfl, rfl, rfl, by decide +kernel, rfl, by decide +kernel, by decide +kernel⟩
theorem cal_isTitle4 {f : Addr} {fd : FuncData} (F : Df K mg "_law_is_title" sIsTitle ["_law_word"] f fd) (B : Bt mg) : Cal0 P w K mg base "_law_is_title" 1 1 isTitle4M := by
  refine ⟨f, fd, _, okD F.F scIsTitle rfl (fun cdv A outer s H E hr => ?_), F.g, F.F.kp, F.b⟩
  refine ⟨_, (pds_cons (pds_setLc (i := 1) (own := [("_law_sign", 2)]) (W' := fun _ _ _ _ => False) scIsTitle.nd (pdi_str (pd_var 0)) (blkOk_by (N := nIsTitle) (sc := defScope sIsTitle) (by decide +kernel)) (fun _ _ _ _ _ => (pg_name (i := 2) scIsTitle.nd rfl (by first | exact .inl rfl | exact .inr rfl))) (tg_nm 2) (fun _ _ _ _ _ => (pdts_one (pdt_cmp (do_nin rfl (u65 hr)) (pd_var 2) pd_str))) (fun _ _ _ _ _ => (pd_var 2)))
      (pds_one (pds_ret (pd_and (pd_chn do_lt do_lt pd_int (pd_blt (do_len rfl) B.len (pda_cons (pd_var 0) pda_nil)) pd_int) (pd_and (pd_cmp (do_eq rfl hr.units) (pd_var 1) (pd_lst pda_nil)) (pd_one (pd_cmp (do_nin rfl (u65 hr)) (pd_var 0) (pd_tup (pda_cons pd_str (pda_cons pd_str (pda_cons pd_str (pda_cons pd_str (pda_cons pd_str (pda_cons pd_str pda_nil)))))))))))))), ?_⟩
  rintro ds P' R _ ⟨z, rfl, zo, zl, p⟩
  refine ⟨z, rfl, ⟨trivial, trivial⟩, ?_⟩
  refine cmpD_pure (oddIn letterL) (by rw [List.length_map, Array.length_toList]; show 0 + z.length ≤ _; omega) (fun d hd' T hT => ?_) ?_
  · obtain ⟨c, hc, rfl⟩ := List.mem_map.mp hd'
    refine ⟨_, rfl, _, rfl, rfl, ?_⟩
    rw [oddIn_at] at hT
    show if (!decide (c ∈ letterL.cps.toList)) = true then _ else _
    cases hc' : decide (c ∈ letterL.cps.toList) with
    | true =>
      rw [hc', if_pos rfl] at hT
      exact iteF hT
    | false =>
      rw [hc'] at hT
      exact iteT ⟨rfl, hT⟩
  have sh : shN 1 (.lst ([] ++ (z.cps.toList.map fun c => D.str ⟨#[c]⟩).filterMap (oddIn letterL))) = true := oddIn_shL zo (by omega)
  have c1 : ((0 : Int) < (z.length : Int)) ↔ 1 ≤ z.length := by omega
  have c6 : ((z.length : Int) < 7) ↔ z.length ≤ 6 := by omega
  unfold nameB at p
  refine ⟨z.length, len_str (big_le (by omega)), trivial, _, rfl, ?_⟩
  by_cases h1 : 1 ≤ z.length
  · rw [decide_eq_true h1, Bool.true_and] at p
    rw [decide_eq_true (c1.mpr h1)]
    refine iteT ⟨trivial, _, rfl, ?_⟩
    by_cases h6 : z.length ≤ 6
    · rw [decide_eq_true h6, Bool.true_and] at p
      rw [decide_eq_true (c6.mpr h6)]
      refine iteT ⟨by decide, okEq_sh (n := 1) (m := 1) sh rfl (by decide), _, rfl, ?_⟩
      rw [dEq_nil, List.nil_append, oddIn_none]
      cases ha : (z.cps.toList.map fun c => decide (c ∈ letterL.cps.toList)).all id with
      | false =>
        rw [ha, Bool.and_false] at p
        exact iteF p
      | true =>
        rw [ha, Bool.and_true] at p
        have ei : inB (.str z) (.tup (keptL.map .str)) = some (keptL.any fun y => y == z) := by
          have e : (flD (.str z) && (keptL.map D.str).all flD || shD (.str z) && shD (.tup (keptL.map .str))) = true := rfl
          simp only [inB, e, if_true, List.any_map]
          rfl
        exact iteT ⟨by decide, _, ei, p⟩
    · rw [decide_eq_false h6, Bool.false_and] at p
      rw [decide_eq_false fun z' => h6 (c6.mp z')]
      exact iteF p
  · rw [decide_eq_false h1, Bool.false_and, Bool.false_and] at p
    rw [decide_eq_false fun z' => h1 (c1.mp z')]
    exact iteF ⟨_, rfl, iteF p⟩
def isCostM : Mc := fun ds P _ => ∃ z, ds = [.str z] ∧ PyData.strOk z = true ∧ z.length ≤ 900000 ∧ P (.bl (numB z).isSome)
abbrev nIsCost : List Str := ["_law_word", "_law_strange", "_law_sign"]
theorem scIsCost : FnScope nIsCost ["_law_word"] (defScope sIsCost) := ⟨rfl, rfl, rfl, by decide +kernel, rfl, by decide +kernel, by decide +kernel⟩
theorem cal_isCost {f : Addr} {fd : FuncData} (F : Df K mg "_law_is_cost" sIsCost ["_law_word"] f fd) (B : Bt mg) : Cal0 P w K mg base "_law_is_cost" 1 1 isCostM := by
  refine ⟨f, fd, _, okD F.F scIsCost rfl (fun cdv A outer s H E hr => ?_), F.g, F.F.kp, F.b⟩
  refine ⟨_, (pds_cons (pds_setLc (i := 1) (own := [("_law_sign", 2)]) (W' := fun _ _ _ _ => False) scIsCost.nd (pdi_str (pd_var 0)) (blkOk_by (N := nIsCost) (sc := defScope sIsCost) (by decide +kernel)) (fun _ _ _ _ _ => (pg_name (i := 2) scIsCost.nd rfl (by first | exact .inl rfl | exact .inr rfl))) (tg_nm 2) (fun _ _ _ _ _ => (pdts_one (pdt_cmp (do_nin rfl (u65 hr)) (pd_var 2) pd_str))) (fun _ _ _ _ _ => (pd_var 2)))
      (pds_one (pds_ret (pd_and (pd_chn do_lt do_lt pd_int (pd_blt (do_len rfl) B.len (pda_cons (pd_var 0) pda_nil)) pd_int) (pd_and (pd_cmp (do_eq rfl hr.units) (pd_var 1) (pd_lst pda_nil)) (pd_one (pd_or (pd_cmp (do_eq rfl hr.units) (pd_var 0) pd_str) (pd_one (pd_cmp (do_ne rfl hr.units) (pd_ix (do_ix rfl) (pd_var 0) pd_int) pd_str))))))))), ?_⟩
  rintro ds P' R _ ⟨z, rfl, zo, zl, p⟩
  refine ⟨z, rfl, ⟨trivial, trivial⟩, ?_⟩
  refine cmpD_pure (oddIn digitL) (by rw [List.length_map, Array.length_toList]; show 0 + z.length ≤ _; omega) (fun d hd' T hT => ?_) ?_
  · obtain ⟨c, hc, rfl⟩ := List.mem_map.mp hd'
    refine ⟨_, rfl, _, rfl, rfl, ?_⟩
    rw [oddIn_at] at hT
    show if (!decide (c ∈ digitL.cps.toList)) = true then _ else _
    cases hc' : decide (c ∈ digitL.cps.toList) with
    | true =>
      rw [hc', if_pos rfl] at hT
      exact iteF hT
    | false =>
      rw [hc'] at hT
      exact iteT ⟨rfl, hT⟩
  have sh : shN 1 (.lst ([] ++ (z.cps.toList.map fun c => D.str ⟨#[c]⟩).filterMap (oddIn digitL))) = true := oddIn_shL zo (by omega)
  have c1 : ((0 : Int) < (z.length : Int)) ↔ 1 ≤ z.length := by omega
  have c6 : ((z.length : Int) < 20) ↔ z.length ≤ 19 := by omega
  unfold numB at p
  refine ⟨z.length, len_str (big_le (by omega)), trivial, _, rfl, ?_⟩
  by_cases h1 : 1 ≤ z.length
  · rw [decide_eq_true h1, Bool.true_and] at p
    rw [decide_eq_true (c1.mpr h1)]
    refine iteT ⟨trivial, _, rfl, ?_⟩
    by_cases h6 : z.length ≤ 19
    · rw [decide_eq_true h6, Bool.true_and] at p
      rw [decide_eq_true (c6.mpr h6)]
      refine iteT ⟨by decide, okEq_sh (n := 1) (m := 1) sh rfl (by decide), _, rfl, ?_⟩
      rw [dEq_nil, List.nil_append, oddIn_none]
      show if digsB z = true then _ else _
      cases ha : digsB z with
      | false =>
        rw [ha] at p
        exact iteF p
      | true =>
        rw [ha, if_pos rfl] at p
        refine iteT ⟨.inl rfl, _, rfl, ?_⟩
        rw [eq_dec]
        obtain ⟨n, en⟩ := digs_int h1 h6 ha
        by_cases h0 : z = ("0" : Str)
        · rw [decide_eq_true h0]
          have z0 : zeroB z = false := by subst h0; decide +kernel
          rw [z0, if_neg (by decide), en] at p
          exact iteT p
        · rw [decide_eq_false h0]
          refine iteF ?_
          have hl : z.length = z.cps.toList.length := by simp [Str.length]
          have hp : 0 < z.cps.toList.length := by omega
          refine ⟨big_le (by omega), z.cps.toList[0], atI_nat (j := 0) (List.getElem?_eq_getElem hp), .inl rfl, ?_⟩
          have e0 : z.cps.toList[0]? = some z.cps.toList[0] := List.getElem?_eq_getElem hp
          have ez : zeroB z = decide (z.cps.toList[0] = 48) := by
            unfold zeroB
            rw [e0]
            by_cases h9 : 1 < z.length
            · rw [decide_eq_true h9, Bool.true_and]
              simp
            · rw [decide_eq_false h9, Bool.false_and]
              refine (decide_eq_false fun e48 => h0 ?_).symm
              refine TL.ext_tl ?_
              have e1 : z.cps.toList.length = 1 := by omega
              obtain ⟨c, ec⟩ := List.length_eq_one_iff.mp e1
              have hc : c = 48 := by
                have : z.cps.toList[0]? = some c := by rw [ec]; rfl
                rw [e0, e48] at this
                injection this with this
                exact this.symm
              show z.cps.toList = _
              rw [ec, hc]
              rfl
          have ed : dEq (.str ⟨#[z.cps.toList[0]]⟩) (.str "0") = decide (z.cps.toList[0] = 48) := by
            show ((⟨#[z.cps.toList[0]]⟩ : Str) == ("0" : Str)) = _
            have e48 : ("0" : Str) = ⟨#[48]⟩ := by decide +kernel
            rw [e48]
            by_cases h : z.cps.toList[0] = 48
            · rw [h]
              decide +kernel
            · rw [decide_eq_false h]
              exact beq_eq_false_iff_ne.mpr fun y => h (by injection y with y; injection y with y; injection y)
          rw [ed, ← ez]
          cases hz : zeroB z with
          | true =>
            rw [hz] at p
            exact p
          | false =>
            rw [hz, if_neg (by decide), en] at p
            exact p
    · rw [decide_eq_false h6, Bool.false_and] at p
      rw [decide_eq_false fun z' => h6 (c6.mp z')]
      exact iteF p
  · rw [decide_eq_false h1, Bool.false_and, Bool.false_and] at p
    rw [decide_eq_false fun z' => h1 (c1.mp z')]
    exact iteF ⟨_, rfl, iteF p⟩
end
end Vf

set_option Elab.async false
set_option linter.all false
set_option maxRecDepth 100000
set_option maxHeartbeats 1000000
/-! the law's own texts of steps -/
namespace Vf
open PySem PySem.Spec PyProof.Rows L2
theorem num_ok {c : Int} (h0 : 0 ≤ c) (h1 : c < 10 ^ 200) : c.natAbs.log2 < 1920 ∧ (numS c).length ≤ 200 := by
  obtain ⟨n, en⟩ := Int.eq_ofNat_of_zero_le h0
  rw [en] at h1 ⊢
  have h1 : n < 10 ^ 200 := by
    have : ((n : Nat) : Int) < ((10 ^ 200 : Nat) : Int) := by rw [Int.natCast_pow]; exact h1
    exact Int.ofNat_lt.mp this
  constructor
  · rw [Int.natAbs_natCast]
    by_cases z : n = 0
    · subst z
      decide
    · rw [Nat.log2_lt z]
      exact Nat.lt_of_lt_of_le h1 (by decide +kernel)
  · rw [len_tl]
    show (TL.tl (Str.ofString (toString ((n : Nat) : Int)))).length ≤ 200
    rw [TL.tl_num]
    exact TL.numL_len (by decide) h1
theorem app_len' (x y : Str) : (x ++ y).length = x.length + y.length := by rw [len_tl, TL.tl_append, List.length_append, ← len_tl, ← len_tl]
theorem GoodRow.rowL {t : Str} {ps : List Str} {ts : List Tri} (g : GoodRow t ps ts) {q : Tri} (hq : q ∈ ts) : (rowS q).length ≤ 214 := by
  have h := g.cost hq
  have a1 := (nameB_facts (g.pn _ h.1)).2.1
  have a2 := (nameB_facts (g.pn _ h.2.1)).2.1
  have a3 := (num_ok h.2.2 (g.ac q hq)).2
  have e := tl_row q
  rw [len_tl, e, List.length_append, List.length_append, List.length_append, List.length_append, ← len_tl, ← len_tl, ← len_tl]
  simp only [List.length_cons, List.length_nil]
  omega
theorem GoodRow.tailL {t : Str} {ps : List Str} {ts : List Tri} (g : GoodRow t ps ts) : (tailS ts).length ≤ 13000 := by
  have := join_len (y := ", ") (xs := ts.map rowS) (m := 214) (fun x hx => by
    obtain ⟨q, hq, rfl⟩ := List.mem_map.mp hx
    exact g.rowL hq)
  have l2 : (", " : Str).length = 2 := by decide +kernel
  rw [List.length_map, l2] at this
  have := g.al
  show (Txt.join ", " (ts.map rowS)).length ≤ _
  omega
theorem tail_ne {ts : List Tri} (h : ts ≠ []) : tailS ts ≠ ("" : Str) := by
  intro e
  cases ts with
  | nil => exact h rfl
  | cons q r =>
    have e1 : TL.tl (tailS (q :: r)) = [] := by rw [e]; rfl
    unfold tailS at e1
    rw [tl_Join] at e1
    have e2 : TL.tl (rowS q) = [] := by
      cases r with
      | nil => exact e1
      | cons q2 r2 =>
        have e1 : TL.tl (rowS q) ++ _ = [] := e1
        exact (List.append_eq_nil_iff.mp e1).1
    have e3 := tl_row q
    rw [e2] at e3
    have := congrArg List.length e3
    simp at this
theorem step_text4 {name : Str} {ys : List Str} {tr : List Tri} (hy : ys ≠ []) : stepS name ys tr = ((name ++ (" at " : Str)) ++ Txt.join " " ys) ++ (if tr = [] then ("" : Str) else (" go " : Str) ++ tailS tr) := by
  refine str_eq ?_
  unfold stepS
  have s1 : TL.tl (" " : Str) = [32] := rfl
  have s3 : TL.tl (" go " : Str) = [32, 103, 111, 32] := rfl
  have s4 : TL.tl (" at " : Str) = [32, 97, 116, 32] := rfl
  have s5 : TL.tl ("go" : Str) = [103, 111] := rfl
  have s6 : TL.tl ("at" : Str) = [97, 116] := rfl
  have s0 : TL.tl ("" : Str) = [] := rfl
  have hm : ys.map TL.tl ≠ [] := fun e => hy (List.map_eq_nil_iff.mp e)
  have hd : TL.joinL [32] ((name :: "at" :: ys).map TL.tl) = ((TL.tl name ++ [32, 97, 116, 32]) ++ TL.joinL [32] (ys.map TL.tl)) := by
    have e : (name :: "at" :: ys).map TL.tl = [TL.tl name, TL.tl ("at" : Str)] ++ ys.map TL.tl := rfl
    rw [e, joinL_app (by simp) hm]
    show (TL.tl name ++ ([32] ++ TL.tl ("at" : Str))) ++ ([32] ++ _) = _
    rw [s6]
    simp
  rw [TL.tl_append, TL.tl_append, TL.tl_append, tl_Join, tl_Join, s1, s4]
  by_cases e : tr = []
  · rw [if_pos e, if_pos e, List.append_nil, s0, List.append_nil, hd]
  · rw [if_neg e, if_neg e, TL.tl_append, s3, List.map_append, joinL_app (by simp) (by simp), hd]
    show _ ++ ([32] ++ TL.joinL [32] [TL.tl ("go" : Str), TL.tl (tailS tr)]) = _
    rw [s5]
    show _ ++ ([32] ++ ([103, 111] ++ ([32] ++ TL.tl (tailS tr)))) = _
    simp
def rowT (r : Row) : D := .tup [.str r.1, .lst (r.2.1.map .str), .lst (r.2.2.map triD')]
section
variable {P : Program} {w : World} {K : PySem.W.Frag} {mg : Str → Option Value} {base : Heap} {cs : List Addr}
def stageTextM : Mc := fun ds P _ => ∃ r : Row, ds = [rowT r] ∧ GoodRow r.1 r.2.1 r.2.2 ∧ P (.str (stepS r.1 r.2.1 r.2.2))
abbrev nStageText : List Str := ["_law_stage_here", "_law_tail", "_law_first", "_law_second", "_law_cost"]
theorem scStageText : FnScope nStageText ["_law_stage_here"] (defScope sStageText) := ⟨rfl, rfl, rfl, by decide +kernel, rfl, by decide +kernel, by decide +kernel⟩
theorem cal_stageText {f : Addr} {fd : FuncData} (F : Df K mg "_law_stage_text" sStageText ["_law_stage_here"] f fd) (B : Bt mg) : Cal0 P w K mg base "_law_stage_text" 1 1 stageTextM := by
  refine ⟨f, fd, _, okD F.F scStageText rfl (fun cdv A outer s H E hr => ?_), F.g, F.F.kp, F.b⟩
  refine ⟨_, (pds_cons (pds_set (i := 1) scStageText.nd (pd_join rfl pd_str (pd_fr (pf_lc (t := (gTup K 3 (gCons (gName 2) (gCons (gName 3) (gCons (gName 4) gNil))))) (own := [("_law_first", 2), ("_law_second", 3), ("_law_cost", 4)]) (W' := fun _ _ _ _ => False) scStageText.nd (pdi_seq rfl (pd_ix (do_ix rfl) (pd_var 0) pd_int)) (blkOk_by (N := nStageText) (sc := defScope sStageText) (by decide +kernel)) (fun _ _ _ _ _ => (pg_tup rfl (pgs_cons (pg_name (i := 2) scStageText.nd rfl (by first | exact .inl rfl | exact .inr rfl)) (pgs_cons (pg_name (i := 3) scStageText.nd rfl (by first | exact .inl rfl | exact .inr rfl)) (pgs_cons (pg_name (i := 4) scStageText.nd rfl (by first | exact .inl rfl | exact .inr rfl)) pgs_nil))))) (tg_tp (tgs_cons (tg_nm 2) (tgs_cons (tg_nm 3) (tgs_cons (tg_nm 4) tgs_nil)))) (fun _ _ _ _ _ => pdts_nil) (fun _ _ _ _ _ => (pd_join rfl pd_str (pd_lst (pda_cons (pd_var 2) (pda_cons (pd_var 3) (pda_cons (pd_bty do_str1 B.str (pda_cons (pd_var 4) pda_nil)) pda_nil))))))))))
      (pds_one (pds_ret (pd_op (do_add rfl) (pd_op (do_add rfl) (pd_op (do_add rfl) (pd_ix (do_ix rfl) (pd_var 0) pd_int) pd_str) (pd_join rfl pd_str (pd_ix (do_ix rfl) (pd_var 0) pd_int))) (pd_ite (pdt_cmp (do_ne rfl hr.units) (pd_var 1) pd_str) (pd_op (do_add rfl) pd_str (pd_var 1)) pd_str))))), ?_⟩
  rintro ds P' R _ ⟨⟨t, ps, ts⟩, rfl, g0, p0⟩
  have g : GoodRow t ps ts := g0
  have p : P' (.str (stepS t ps ts)) := p0
  have er : rowT (t, ps, ts) = .tup [.str t, .lst (ps.map .str), .lst (ts.map triD')] := rfl
  rw [er]
  clear p0 g0 er
  rw [step_text4 g.ne] at p
  have l1 : (" " : Str).length = 1 := by decide +kernel
  have l2 : (", " : Str).length = 2 := by decide +kernel
  have la : (" at " : Str).length = 4 := by decide +kernel
  have lg : (" go " : Str).length = 4 := by decide +kernel
  have tl6 := (nameB_facts g.nm).2.1
  have al := g.al
  have pl := g.pl
  have tll := g.tailL
  have p6 : ∀ z ∈ ps, z.length ≤ 6 := fun z hz => (nameB_facts (g.pn z hz)).2.1
  have jl := join_len (y := " ") (xs := ps) (m := 6) p6
  rw [l1] at jl
  refine ⟨⟨_, rfl⟩, _, atI_nat (j := 2) rfl, _, rfl, ⟨trivial, trivial, trivial, trivial⟩, ?_⟩
  refine cmpD_map triD' (fun q => .str (rowS q)) (show ts.length ≤ 1000000 by omega) (fun q hq X hX => ?_) ?_
  · have h := g.cost hq
    have a1 := p6 _ h.1
    have a2 := p6 _ h.2.1
    obtain ⟨a3, a4⟩ := num_ok h.2.2 (g.ac q hq)
    refine ⟨_, rfl, rfl, rfl, ⟨_, rfl⟩, _, rfl, a3, big_le (by show 3 ≤ 1000000; decide), _, _, [q.1, q.2.1, numS q.2.2], rfl, rfl, rfl, join_room (m := 200) (fun x hx => ?_) (by rw [l1]; show 3 * 200 + 3 * 1 ≤ 16777216; decide), rfl, hX⟩
    simp only [List.mem_cons, List.not_mem_nil, or_false] at hx
    rcases hx with rfl | rfl | rfl <;> omega
  have em : (ts.map fun q => D.str (rowS q)) = (ts.map rowS).map D.str := by rw [List.map_map]; rfl
  refine ⟨_, _, ts.map rowS, rfl, rfl, by rw [em]; exact strL_map _, join_room (m := 214) (fun x hx => ?_) (by rw [l2, List.length_map]; omega), ?_⟩
  · obtain ⟨q, hq, rfl⟩ := List.mem_map.mp hx
    exact g.rowL hq
  refine ⟨_, atI_nat (j := 0) rfl, ?_, ⟨_, rfl⟩, _, atI_nat (j := 1) rfl, _, _, ps, rfl, rfl, strL_map ps, join_room (m := 6) p6 (by rw [l1]; omega), ?_, .inl rfl, _, rfl, ?_⟩
  · exact big_le (by rw [la]; omega)
  · exact big_le (by rw [app_len', la]; omega)
  · rw [eq_dec]
    show if (!decide (tailS ts = ("" : Str))) = true then _ else _
    by_cases e : ts = []
    · rw [if_pos e] at p
      subst e
      refine iteF ⟨?_, p⟩
      exact big_le (by rw [app_len', app_len', la]; show _ + 0 ≤ _; omega)
    · rw [if_neg e] at p
      rw [decide_eq_false (tail_ne e)]
      refine iteT ⟨?_, ?_, p⟩
      · exact big_le (by rw [lg]; show 4 + (tailS ts).length ≤ _; omega)
      · exact big_le (by rw [app_len', app_len', app_len', la, lg]; show _ + (4 + (tailS ts).length) ≤ _; omega)
end
end Vf

set_option Elab.async false
set_option linter.all false
set_option maxRecDepth 100000
set_option maxHeartbeats 8000000
/-! set(xs), xs a list of tuples of keys -/
namespace Vf
open PySem PySem.Spec PyProof.Rows L2
section
variable {prog : Program} {w : World} {A : Around} {E : Value → Shared → Prop} {s : Shared}
/-- the set of the first i -/
def TsTo (prog : Program) (w : World) (h : Heap) (S : Addr) (ps : List (Addr × List Key)) (i : Nat) : Prop := ∃ L, Ts0 prog w h S L ∧ (∀ p ∈ L, p ∈ ps) ∧ UnlG ((ps.take i).map (·.2)) L.length ∧ ∀ k, k ∈ L.map (·.2) ↔ k ∈ (ps.take i).map (·.2)
theorem TsTo.at {h h' : Heap} {S : Addr} {ps : List (Addr × List Key)} {i : Nat} (g : TsTo prog w h S ps i) (k : ∀ o, h.get? S = some o → h'.get? S = some o) : TsTo prog w h' S ps i := by
  obtain ⟨L, ⟨es, ep, t, ⟨o, ho, r⟩, q⟩, u⟩ := g
  exact ⟨L, ⟨es, ep, t, ⟨o, k o ho, r⟩, q⟩, u⟩
theorem tk_keep {h h' : Heap} {k : List Key} {b : Addr} (t : IsTupleKey (TkP prog w) h k b) (e : ∀ o, h.get? b = some o → h'.get? b = some o) : IsTupleKey (TkP prog w) h' k b := by
  obtain ⟨o, its, n, ho, r⟩ := t
  exact ⟨o, its, n, e o ho, r⟩
theorem update_tups {I : Addr} {fp wr : List Addr} {G : Array GenState → Array GenState → Prop} {n : Nat} {Pv : Nat → Value → Prop} {St : Nat → Shared → Prop} {R : Result → Shared → Prop}
    (W : WalksS prog w A.in1 I fp wr G n Pv St) (S : Addr) (hS : S ∉ fp) (ps : List (Addr × List Key)) (hn : ps.length = n) (room : n + 1 < 64) (hu : A.in1.units + 8 < cLine) (hv : ∀ i v, Pv i v → ∃ p, ps[i]? = some p ∧ v = .ref p.1) (off : ∀ p ∈ ps, p.1 ∉ S :: wr) :
    ∀ (k i : Nat) (s : Shared), n - i = k → i ≤ n → St i s → (∀ p ∈ ps, IsTupleKey (TkP prog w) s.heap p.2 p.1) → TsTo prog w s.heap S ps i → (∀ s', Moved (S :: wr) G s s' → TsTo prog w s'.heap S ps n → R (.ok (.ret .none)) s') →
      codeAny (model prog w) A (.builtin "set.update.loop" ⟨[.ref S, .ref I], []⟩) R s := by
  have Sw : S ∉ wr := fun h => hS (W.sub _ h)
  have sub : ∀ b ∈ wr, b ∈ S :: wr := fun b hb => List.mem_cons_of_mem _ hb
  intro k
  induction k with
  | zero =>
    intro i s hk hi hst tk g hR
    obtain rfl : i = n := by omega
    refine codeAny_builtin PyProof.Rows.F.entry_set_update_loop ?_
    rw [Around.under_plainId PyProof.Rows.F.plain_set_update_loop _]
    show wpAny _ A.in1 (pyNext (.ref I) >>= _) _ _ s
    refine wpAny_bind (W.done s _ _ hst fun s' hm => ?_)
    show wpAny _ A.in1 (ret Value.none) _ _ s'
    exact wpAny_pure (hR s' (hm.mono sub) (g.at fun o e => hm.heap S o Sw e))
  | succ k ih =>
    intro i s hk hi hst tk g hR
    have lt : i < n := by omega
    refine codeAny_builtin PyProof.Rows.F.entry_set_update_loop ?_
    rw [Around.under_plainId PyProof.Rows.F.plain_set_update_loop _]
    show wpAny _ A.in1 (pyNext (.ref I) >>= _) _ _ s
    refine wpAny_bind (W.item i s _ _ lt hst fun v s' hP hst' hm => ?_)
    obtain ⟨p, hp, rfl⟩ := hv i v hP
    have pm := List.mem_of_getElem? hp
    have tk' : ∀ p ∈ ps, IsTupleKey (TkP prog w) s'.heap p.2 p.1 := fun q hq => tk_keep (tk q hq) fun o e => hm.heap q.1 o (fun z => off q hq (sub _ z)) e
    obtain ⟨L, g0, gm, gu, gk⟩ := g.at (h' := s'.heap) fun o e => hm.heap S o Sw e
    obtain ⟨es, ep, t, R0⟩ := ts0_full g0 fun q hq => tk' q (gm q hq)
    have hL : L.length ≤ i := Nat.le_trans gu.1 (by rw [List.length_map, List.length_take]; omega)
    show wpAny _ A.in1 (holding [Value.ref p.1] (setAdd S (.ref p.1)) >>= _) _ _ s'
    refine wpAny_bind (wpAny_holding ?_)
    unfold setAdd
    refine wpAny_holding ?_
    refine wpAny_bind (wpAny_pyHash_tuple (by show _ < cLine; first | exact Nat.lt_of_le_of_lt (Nat.le_add_right _ 8) hu | (simp; omega)) (tk' p pm) ?_)
    refine ts_add plain_mix (s := { s' with toks := s'.toks + (p.2.length + 1) }) R0 (tk' p pm) (Nat.lt_of_le_of_lt (Nat.le_add_right _ 8) hu) (by omega) fun y h' L' es' ep' t' sb R' c1 c2 => ?_
    have et : ps.take (i + 1) = ps.take i ++ [p] := take_next hp
    have g2 : TsTo prog w h' S ps (i + 1) := by
      unfold TsTo
      rw [et, List.map_append]
      by_cases c : p.2 ∈ L.map (·.2)
      · have e := c1 c
        subst e
        refine ⟨L', ts0_of R', gm, unlG_old gu ((gk _).mp c), fun k' => ?_⟩
        rw [gk]
        constructor
        · exact fun z => List.mem_append_left _ z
        · intro z
          rcases List.mem_append.mp z with z | z
          · exact z
          · rw [List.mem_singleton.mp z]
            exact (gk _).mp c
      · have e := c2 c
        refine ⟨L', ts0_of R', fun q hq => ?_, by rw [e.length_eq, List.length_cons]; exact unlG_new gu fun z => c ((gk _).mpr z), fun k' => ?_⟩
        · rcases List.mem_cons.mp (e.mem_iff.mp hq) with z | z
          · rw [z]; exact pm
          · exact gm q z
        · have m1 : k' ∈ L'.map (·.2) ↔ k' ∈ (((p.1, p.2) :: L).map (·.2)) := (e.map (·.2)).mem_iff
          rw [m1, List.map_cons, List.mem_cons, List.mem_append, gk]
          constructor
          · rintro (z | z)
            · exact .inr (List.mem_singleton.mpr z)
            · exact .inl z
          · rintro (z | z)
            · exact .inr z
            · exact .inl (List.mem_singleton.mp z)
    refine wpAny_pure ⟨plainId_quiet PyProof.Rows.F.plain_set_update_loop _, ih (i + 1) _ (by omega) lt (W.frame _ s' _ _ hst' (Nat.le_add_right _ _) fun b hb o e => ?_) (fun q hq => tk_keep (tk' q hq) fun o e => ?_) g2 fun s'' hm'' gg => ?_⟩
    · exact (sb.2 b fun z : b = S => hS (z ▸ hb)).trans e
    · exact (sb.2 q.1 fun z => off q hq (z ▸ List.mem_cons_self)).trans e
    · refine hR s'' (Moved.trans W.gtrans ((hm.mono sub).then_heap (Nat.le_add_right _ _) fun b o hb e => ?_) hm'') gg
      exact (sb.2 b fun z : b = S => hb (z ▸ List.mem_cons_self)).trans e
theorem set_of_tups {l : Addr} {o : Obj} {items : Array Value} {nl : Nat} {ps : List (Addr × List Key)} {Q : Value → Shared → Prop} (hh : A.handled = none) (hu : A.units + 16 < cLine) (ho : s.heap.get? l = some o) (hc : o.cls = .type "list") (hd : o.data = .seq items nl)
    (hi : items.toList = ps.map fun p => Value.ref p.1) (tk : ∀ p ∈ ps, IsTupleKey (TkP prog w) s.heap p.2 p.1) (room : ps.length + 1 < 64)
    (h : ∀ (h' : Heap) (tk : Nat), TsTo prog w h' s.heap.objs.size ps ps.length → (∀ b o, b < s.heap.objs.size → s.heap.get? b = some o → h'.get? b = some o) → Q (.ref s.heap.objs.size) { s with heap := h', toks := tk }) :
    wpAny (model prog w) A (call (.type "set") [.ref l]) Q E s := by
  have hsz : ps.length = items.size := by rw [← Array.length_toList, hi, List.length_map]
  obtain ⟨led, eled⟩ : ∃ led : Bool, led = !w.params.followText "set-order" := ⟨_, rfl⟩
  obtain ⟨c, tl, hmro⟩ := PySem.F.called_set.mro
  have hmade := PySem.F.called_set.made
  have hsub := PySem.F.called_set.sub
  have h1 := PySem.F.called_set.notType
  have h2 := PySem.F.called_set.canCreate
  have hct := PySem.F.typeCall_set_1 (.ref l)
  refine wpAny_call (codeAny_of_tree ?_)
  show wpAny _ _ (callAny (.type "set") _) _ _ _
  refine wpAny_pure ⟨Code.quiet_builtin _ (by decide +kernel), codeAny_builtin PySem.F.entry_type_call ?_⟩
  rw [Around.under_plain (weight_type_call_type "set" [.ref l] []) rfl]
  repeat (any_goals (first | assumption | wp_step))
  -- the new one, its order followed or led
  refine codeAny_mono (code_set_led1 (.ref l) (E := E) (Q₁ := fun obj s₁ => obj = .ref s.heap.objs.size ∧ s₁ = { s with heap := s.heap.push { cls := .type "set", dict := none, data := .set #[] 0 (.fresh 0 0 led) } }) ⟨rfl, by rw [eled]⟩) fun r s₁ hr => ?_
  cases r with
  | error e => exact hr
  | ok fl =>
  cases fl with
  | next => exact hr.elim
  | brk => exact hr.elim
  | cont => exact hr.elim
  | ret obj =>
  obtain ⟨rfl, rfl⟩ := hr
  have hS : (s.heap.push { cls := .type "set", dict := none, data := .set #[] 0 (.fresh 0 0 led) }).get? s.heap.objs.size = some { cls := .type "set", dict := none, data := .set #[] 0 (.fresh 0 0 led) } := Heap.get?_push_size _ rfl
  have hTS : Shared.TypeIs { s with heap := s.heap.push { cls := .type "set", dict := none, data := .set #[] 0 (.fresh 0 0 led) } } (.ref s.heap.objs.size) "set" := ⟨_, hS, rfl⟩
  have hli := PySem.F.called_set.init.lookup
  have hbi := PySem.F.called_set.init.bind (.ref s.heap.objs.size)
  repeat (any_goals (first | assumption | wp_step))
  refine codeAny_mono (codeAny_call_builtin (R := wants (fun r s₂ => r = .none ∧ ∃ h' tk, s₂ = { s with heap := h', toks := tk } ∧ TsTo prog w h' s.heap.objs.size ps ps.length ∧
      (∀ b o, b < s.heap.objs.size → s.heap.get? b = some o → h'.get? b = some o)) E) PySem.F.called_set.init.plain PySem.F.entry_set_init (check_set_init_1 hTS ?_)) fun r₂ s₂ hr₂ => ?_
  · obtain ⟨I, eI⟩ : ∃ I, I = (s.heap.push { cls := .type "set", dict := none, data := .set #[] 0 (.fresh 0 0 led) }).objs.size := ⟨_, rfl⟩
    have lS : l < s.heap.objs.size := Heap.lt_size ho
    have nb : ∀ b, b < s.heap.objs.size → b ≠ I := fun b hb => by
      rw [eI, Heap.size_push]
      exact Nat.ne_of_lt (Nat.lt_succ_of_lt hb)
    have nS : s.heap.objs.size ∉ [I, l] := by
      rw [eI, Heap.size_push]
      simp only [List.mem_cons, List.not_mem_nil, or_false, not_or]
      exact ⟨Nat.ne_of_lt (Nat.lt_succ_self _), Nat.ne_of_gt lS⟩
    have psz : ∀ p ∈ ps, p.1 < s.heap.objs.size := fun p hp => by
      obtain ⟨o, its, n, e, _⟩ := tk p hp
      exact Heap.lt_size e
    have off : ∀ p ∈ ps, p.1 ∉ s.heap.objs.size :: [I] := fun p hp z => by
      rcases List.mem_cons.mp z with z | z
      · exact Nat.ne_of_lt (psz p hp) z
      · exact nb _ (psz p hp) (List.mem_singleton.mp z)
    have val : ∀ (i : Nat) (v : Value), items[i]? = some v → ∃ p, ps[i]? = some p ∧ v = .ref p.1 := fun i v hv => by
      have e : items.toList[i]? = some v := by rw [Array.getElem?_toList]; exact hv
      rw [hi, List.getElem?_map] at e
      cases z : ps[i]? with
      | none => rw [z] at e; cases e
      | some p => rw [z] at e; exact ⟨p, rfl, (Option.some.inj e).symm⟩
    have fin : ∀ (s' : Shared) (h4 : Heap), (∀ b o, s.heap.get? b = some o → h4.get? b = some o) → Moved (s.heap.objs.size :: [I]) (fun g g' => g' = g) { s with heap := h4 } s' → TsTo prog w s'.heap s.heap.objs.size ps items.size →
        ∃ h' tk, s' = { s with heap := h', toks := tk } ∧ TsTo prog w h' s.heap.objs.size ps ps.length ∧ ∀ b o, b < s.heap.objs.size → s.heap.get? b = some o → h'.get? b = some o := fun s' h4 k4 hm g => by
      obtain ⟨h', g', d', tk', os'⟩ := s'
      obtain rfl : g' = s.gens := hm.gens
      obtain rfl : d' = s.drawn := hm.drawn
      obtain rfl : os' = s.os := hm.os
      refine ⟨h', tk', rfl, by rw [hsz]; exact g, fun b o hb e => hm.heap b o (fun z => ?_) (k4 b o e)⟩
      rcases List.mem_cons.mp z with z | z
      · exact Nat.ne_of_lt hb z
      · exact nb b hb (List.mem_singleton.mp z)
    obtain ⟨ocls, odict, odata, oslots⟩ := o
    simp only at hc hd
    subst hc hd
    have hh3 : A.in1.in1.in1.handled = none := by simp [hh]
    have hu3 : A.in1.in1.in1.units + 8 < cLine := by
      simp only [Around.in1]
      show A.units + 1 + 1 + 1 + 8 < cLine
      omega
    have ho1 : (s.heap.push { cls := .type "set", dict := none, data := .set #[] 0 (.fresh 0 0 led) }).get? l = some { cls := .type "list", dict := odict, data := .seq items nl, slots := oslots } := Heap.get?_push_of_some _ ho
    refine init_walk hS ho1 PySem.F.sub_list_set PySem.F.sub_list_frozenset (by decide) ?_
    have hl1 : (s.heap.push { cls := .type "set", dict := none, data := .set #[] 0 (.fresh 0 0 led) }).IsList l items := ⟨_, ho1, rfl, nl, rfl⟩
    refine wpAny_pyIter_list hl1 ?_
    refine wpAny_runValue ?_
    subst eI
    refine update_tups ((Walks.list hh3 _ l (nb l lS) items).toS) s.heap.objs.size nS ps hsz (by rw [← hsz]; exact room) hu3 val off (items.size - 0) 0 _ (by omega) (Nat.zero_le _)
      ⟨⟨_, Heap.get?_push_size _ rfl, rfl, rfl⟩, hl1.push _⟩ (fun p hp => tk_keep (tk p hp) fun o e => Heap.get?_push_of_some _ (Heap.get?_push_of_some _ e)) ?_ fun s' hm g => ?_
    · subst eled
      have R := tsAt_new (knd := TkP prog w) (w := w) hS
      exact TsTo.at ⟨[], ts0_of R, fun p h => (nomatch h), by rw [List.take_zero]; exact unlG_nil, fun k => by rw [List.take_zero]⟩ fun o e => Heap.get?_push_of_some _ e
    · exact ⟨rfl, fin s' _ (fun b o e => Heap.get?_push_of_some _ (Heap.get?_push_of_some _ e)) hm g⟩
  · cases r₂ with
    | error e => exact hr₂
    | ok fl₂ =>
      cases fl₂ with
      | ret r =>
        obtain ⟨rfl, h', tk', rfl, g, hk'⟩ := hr₂
        repeat (any_goals (first | assumption | wp_step))
        exact h _ _ g hk'
      | _ => exact hr₂.elim
end
end Vf

set_option Elab.async false
set_option linter.all false
set_option maxRecDepth 100000
set_option maxHeartbeats 1000000
/-! len(set(xs)), xs a list of tuples, by data; what the law finds due -/
namespace Vf
open PySem PySem.Spec PyProof.Rows L2
section
variable {X : Cx} {K : PySem.W.Frag} {W : WX}
theorem cr_setTs (hc : X.calm = true) (hu : X.A.units + 32 < cLine) : CallR X (.type "set") (fun vs H Q => ∃ (l : Addr) (ps : List (Addr × List Key)), vs = [V.ref l] ∧ SqL X.K H l (ps.map fun p => V.ref p.1) ∧ TKs X.K H ps ∧ ps.length + 1 < 64 ∧
    ∀ p L, H p = none → UnlG (ps.map (·.2)) L.length → Q (.ref p) (upd H p (TsO X.prog X.w p L))) := by
  intro pins s σ H vs us Q I r h
  obtain ⟨l, ps, rfl, hs, hk, room, q⟩ := h
  rw [Vals.ref1 r]
  obtain ⟨its, rv, pl, hz⟩ := I.list hs
  obtain ⟨o, ho, hc', n, hd⟩ := pl.isList
  have nD : H s.heap.objs.size = none := I.hok.fresh (Nat.le_refl _)
  have ei : its.toArray.toList = ps.map fun p => Value.ref p.1 := by
    rw [List.toList_toArray]
    clear hs hk room q ho hd hz pl
    induction ps generalizing its with
    | nil => cases rv; rfl
    | cons p ps ih =>
      cases rv with
      | cons a b =>
        cases a
        rw [List.map_cons, ← ih _ b]
  refine set_of_tups (I.ok.hd hc) (by omega) ho hc' hd ei (fun p hp => tk_at I (hk p hp)) room fun h' tk g k => ?_
  obtain ⟨L, g0, _, gu, _⟩ := g
  rw [List.take_length] at gu
  exact ⟨.ref s.heap.objs.size, _, I.laid (t' := tk) (fun b o e => k b o (Heap.lt_size e) e) (Nat.le_refl _) (tsO_new g0), rfl, q _ L nD gu⟩
def lsetTD (F : DE) : DE := fun ρ P R => F ρ (fun d ρ1 => ∃ kss : List (List Key), d = .lst (kss.map keysD) ∧ kss.length + 1 < 64 ∧ ∀ n : Nat, UnlG kss n → P (.int n) ρ1) R
theorem pd_lsetT (hK : X.K = K) (hu : X.A.units + 64 < cLine) {a : Expr} {F : DE} {p p2 q pos : Pos} (hm : X.mg "len" = none) (hm2 : X.mg "set" = none) (ha : PD K W X a F) (hc : X.calm = true := by rfl) (hg : Gl X "len" := by rfl) (hg2 : Gl X "set" := by rfl)
    (he : starEach [a] X.env = (false, eval a X.env) :: starEach [] X.env := by rfl) (hpl : (backTo q (starEach [] X.env)).any (·.1) = false := by rfl)
    (he2 : starEach [.Call (.Name "set" p2) [a] [] q] X.env = (false, eval (.Call (.Name "set" p2) [a] [] q) X.env) :: starEach [] X.env := by rfl) (hpl2 : (backTo pos (starEach [] X.env)).any (·.1) = false := by rfl) :
    PD K W X (.Call (.Name "len" p) [.Call (.Name "set" p2) [a] [] q] [] pos) (lsetTD F) := by
  refine PE.imp (pe_callB cr_lenTs hg hm PySem.boot_len (pa_cons (pe_callTy (cr_setTs hc (Nat.lt_of_le_of_lt (Nat.add_le_add_left (by decide : 32 ≤ 64) _) hu)) hg2 hm2 (by decide +kernel) (pa_cons ha pa_nil he) (by decide) (by decide) he hpl) pa_nil he2) (by decide) (by decide) he2 hpl2) fun σ H Q ⟨c, G, ρ, P, R, r, f, k, kx⟩ => ?_
  subst hK
  refine ⟨c, G, ρ, _, R, r, f, fun d ρ1 v H1 G1 f1 r1 s1 q1 => ?_, kx⟩
  obtain ⟨kss, rfl, hl, f1⟩ := f1
  obtain ⟨a, xs, rfl, hs, ra⟩ := q1
  have ps : ∃ ps : List (Addr × List Key), xs = ps.map (fun p => V.ref p.1) ∧ ps.map (·.2) = kss ∧ ∀ p ∈ ps, SqT X.K G1 p.1 (p.2.map kV) := by
    clear hs hl f1
    induction kss generalizing xs with
    | nil => exact ⟨[], ra, rfl, fun p h => (nomatch h)⟩
    | cons ks kss ih =>
      obtain ⟨x, rest, rfl, qx, qr⟩ := ra
      obtain ⟨ps, rfl, e2, h⟩ := ih _ qr
      obtain ⟨b, us, rfl, hb, hus⟩ := qx
      rw [rp_keys hus] at hb
      exact ⟨(b, ks) :: ps, rfl, by rw [List.map_cons, e2], fun p hp => by
        rcases List.mem_cons.mp hp with rfl | hp
        · exact hb
        · exact h p hp⟩
  obtain ⟨ps, rfl, rfl, hp⟩ := ps
  rw [List.length_map] at hl
  refine ⟨a, ps, rfl, SqL.of (r1.gh _ _ hs), fun p hp' => same_sqT r1.gh (hp p hp'), hl, fun m L hm gu => ?_⟩
  refine ⟨m, L, rfl, upd_same, ?_⟩
  exact k _ _ _ _ _ (f1 _ gu) (r1.ext (Ext.tmp r1.gh (same_new hm))) s1 rfl
end
end Vf

set_option Elab.async false
set_option linter.all false
set_option maxRecDepth 100000
set_option maxHeartbeats 1000000
/-! the law's own reading of a line -/
namespace Vf
open PySem PySem.Spec PyProof.Rows L2
open PySem.Builtin.Str (strSub)
/-- what is told of a line -/
def toldP (z : Str) (P : D → Prop) : Prop := match stepB z with
  | none => P (.int 0)
  | some r => match wrongR r with
    | some w => P (.str w)
    | none => ∀ ps' ts', ps'.Perm r.2.1 → Asc ltS ps' → ts'.Perm r.2.2 → Asc ltT ts' → P (.str (stepS r.1 ps' ts'))
def keysB (ts : List Tri) : Bool := decide (ts.map fun t => (t.1, t.2.1)).Nodup
def insB (ps : List Str) (ts : List Tri) : Bool := ts.all fun t => decide (t.1 ∈ ps) && decide (t.2.1 ∈ ps)
theorem wrongR_eq {z : Str} {r : Row} (t : Told z r) : wrongR r = if decide r.2.1.Nodup = true then (if insB r.2.1 r.2.2 = true then (if keysB r.2.2 = true then (none : Option Str) else some ("arrows" : Str)) else some ("arrows" : Str)) else some ("places" : Str) := by
  obtain ⟨nm, ps, ts⟩ := r
  have e1 : arePlacesD (.lst (ps.map D.str)) = decide ps.Nodup := by
    show (!(ps.map D.str).isEmpty && (((ps.map D.str).map isNameD).all id && (match strL (ps.map D.str) with | some zs => decide zs.Nodup | none => false))) = _
    have h1 : (!(ps.map D.str).isEmpty) = true := by
      cases hps : ps with
      | nil => exact absurd hps t.ne
      | cons _ _ => rfl
    rw [h1, names_all t.pn, strL_map]
    rfl
  have e2 : areArrsD ps (.lst (ts.map triD')) = (insB ps ts && keysB ts) := by
    show (((ts.map triD').map (isArrD ps)).all id && (match tris (ts.map triD') with | some ts => decide (ts.map fun t => (t.1, t.2.1)).Nodup | none => false)) = _
    rw [tris_map]
    have h1 : ((ts.map triD').map (isArrD ps)).all id = insB ps ts := by
      unfold insB
      rw [List.map_map, List.all_map]
      refine Bool.eq_iff_iff.mpr ?_
      rw [List.all_eq_true, List.all_eq_true]
      refine ⟨fun h q hq => ?_, fun h q hq => ?_⟩
      · have h1 : isArrD ps (triD' q) = true := h q hq
        rw [tri_isArr] at h1
        unfold arrOk at h1
        rw [Bool.and_eq_true, Bool.and_eq_true] at h1
        rw [h1.1, h1.2.1]
        rfl
      · show isArrD ps (triD' q) = true
        rw [tri_isArr]
        have h1 := h q hq
        rw [Bool.and_eq_true] at h1
        unfold arrOk
        rw [h1.1, h1.2, decide_eq_true (t.an q hq).2.2.1]
        rfl
    rw [h1]
    rfl
  unfold wrongR wrongW
  have e0 : isNameD (.str nm) = true := t.nm
  show (if isNameD (.str nm) = true then (if arePlacesD (.lst (ps.map D.str)) = true then (if areArrsD (strsOf (.lst (ps.map D.str))) (.lst (ts.map triD')) = true then (none : Option Str) else some ("arrows" : Str)) else some ("places" : Str)) else some ("name" : Str)) = _
  rw [if_pos e0, e1, strsOf_lst, e2]
  show _ = (if decide ps.Nodup = true then (if insB ps ts = true then (if keysB ts = true then (none : Option Str) else some ("arrows" : Str)) else some ("arrows" : Str)) else some ("places" : Str))
  cases decide ps.Nodup <;> cases insB ps ts <;> cases keysB ts <;> rfl
section
variable {P : Program} {w : World} {K : PySem.W.Frag} {mg : Str → Option Value} {base : Heap} {cs : List Addr}
def dueM4 : Mc := fun ds P _ => ∃ z, ds = [.str z] ∧ lowS 122 z ∧ ReadOk z ∧ toldP z P
abbrev nDue : List Str := ["_law_line", "_law_head", "_law_rest", "_law_spot", "_law_words", "_law_marks", "_law_piece", "_law_parts", "_law_touched", "_law_word", "_law_mark"]
theorem scDue : FnScope nDue ["_law_line"] (defScope sDue) := ⟨rfl, rfl, rfl, by decide +kernel, rfl, by decide +kernel, by decide +kernel⟩
/-- a piece, as the law reads it -/
theorem arrB_some {z a b c : Str} {n : Int} (e : Txt.split z " " = [a, b, c]) (ha : nameB a = true) (hb : nameB b = true) (hn : numB c = some n) : arrB z = some (a, b, n) := by
  rw [arrB_three e, ha, hb, hn]
  rfl
theorem allSome_cut {l : List Str} {z : Str} (h : z ∈ l) (e : arrB z = none) : allSome (l.map arrB) = none := allSome_none (List.mem_map.mpr ⟨z, h, e⟩)
theorem names_fm (l : List Str) : ((l.map D.str).filterMap fun d => if isNameD d = true then none else some d).isEmpty = l.all nameB := by
  rw [Bool.eq_iff_iff, List.isEmpty_iff, List.all_eq_true, List.filterMap_eq_nil_iff]
  refine ⟨fun h z hz => ?_, fun h d hd => ?_⟩
  · have := h (.str z) (List.mem_map.mpr ⟨z, hz, rfl⟩)
    cases hn : nameB z with
    | true => rfl
    | false =>
      have : (if nameB z = true then (none : Option D) else some (.str z)) = none := this
      rw [hn] at this
      cases this
  · obtain ⟨z, hz, rfl⟩ := List.mem_map.mp hd
    show (if nameB z = true then (none : Option D) else some (.str z)) = none
    rw [if_pos (h z hz)]
theorem numB_int {w : Str} {n : Int} (h : numB w = some n) : PySem.intText? w = some n ∧ w.length ≤ 19 := by
  unfold numB at h
  split at h
  · rename_i hc
    rw [Bool.and_eq_true, Bool.and_eq_true, decide_eq_true_eq, decide_eq_true_eq] at hc
    split at h
    · cases h
    · exact ⟨h, hc.1.2⟩
  · cases h
theorem inB_strs {x : Str} {ps : List Str} : inB (.str x) (.lst (ps.map D.str)) = some (decide (x ∈ ps)) := by
  have e : (flD (.str x) && (ps.map D.str).all flD || shD (.str x) && shD (.lst (ps.map .str))) = true := by
    have : (ps.map D.str).all flD = true := List.all_eq_true.mpr fun d hd => by
      obtain ⟨y, _, rfl⟩ := List.mem_map.mp hd
      rfl
    rw [this]
    rfl
  simp only [inB, e, if_true, List.any_map]
  congr 1
  rw [Bool.eq_iff_iff, List.any_eq_true, decide_eq_true_iff]
  refine ⟨fun ⟨y, hy, he⟩ => ?_, fun h => ⟨x, h, beq_self_eq_true x⟩⟩
  have he : (y == x) = true := he
  rwa [← beq_iff_eq.mp he]
def markIn (ps : List Str) : D → Bool
  | .tup [.str a, .str b, _] => decide (a ∈ ps) && decide (b ∈ ps)
  | _ => false
theorem marks_fm (ps : List Str) (ts : List Tri) : ((ts.map triD').filterMap fun d => if markIn ps d = true then none else some d).isEmpty = insB ps ts := by
  unfold insB
  rw [Bool.eq_iff_iff, List.isEmpty_iff, List.all_eq_true, List.filterMap_eq_nil_iff]
  refine ⟨fun h t ht => ?_, fun h d hd => ?_⟩
  · have := h (triD' t) (List.mem_map.mpr ⟨t, ht, rfl⟩)
    have e : markIn ps (triD' t) = (decide (t.1 ∈ ps) && decide (t.2.1 ∈ ps)) := rfl
    rw [e] at this
    cases hn : (decide (t.1 ∈ ps) && decide (t.2.1 ∈ ps)) with
    | true => rfl
    | false =>
      rw [hn] at this
      cases this
  · obtain ⟨t, ht, rfl⟩ := List.mem_map.mp hd
    have e : markIn ps (triD' t) = (decide (t.1 ∈ ps) && decide (t.2.1 ∈ ps)) := rfl
    rw [e, if_pos (h t ht)]
def piecesOf : Option Str → List Str
  | none => []
  | some t => Txt.split t ", "
theorem pieces_read {s0 s1 : Sl} {r : Ev} {rest : Option Str} {T : D → Ev → Prop} {R : RK} (hz : ∀ t, rest = some t → t.length + 2 ≤ sizeLine) (k : T (.lst ((piecesOf rest).map .str)) (s0 :: s1 :: .val (optD .str rest) :: r)) :
    iteD (tstD (binD notNG (varD 2) (conD .non))) (m1D splitG (varD 2) (conD (.str ", "))) (lstD nilA) (s0 :: s1 :: .val (optD .str rest) :: r) T R := by
  cases rest with
  | none => exact ⟨rfl, _, rfl, iteF ⟨by decide, k⟩⟩
  | some t => exact ⟨rfl, _, rfl, iteT ⟨⟨_, rfl⟩, t, ", ", rfl, rfl, by decide +kernel, hz t rfl, k⟩⟩
theorem cal_due4 {f : Addr} {fd : FuncData} (F : Df K mg "_law_due" sDue ["_law_line"] f fd) (B : Bt mg) (C__law_is_title : Cal0 P w K mg base "_law_is_title" 1 1 isTitle4M) (C__law_is_cost : Cal0 P w K mg base "_law_is_cost" 1 1 isCostM) (C__law_stage_text : Cal0 P w K mg base "_law_stage_text" 1 1 stageTextM) : Cal0 P w K mg base "_law_due" 2 1 dueM4 := by
  refine ⟨f, fd, _, okD F.F scDue rfl (fun cdv A outer s H E hr => ?_), F.g, F.F.kp, F.b⟩
  have u64 := hr.units
  refine ⟨_, (pds_cons (pds_par (i := 1) (j := 2) rfl scDue.nd (pda_cons (pd_var 0) (pda_cons pd_non pda_nil)))
      (pds_cons (pds_if (pdt_cmp do_inS pd_str (pd_var 0))
      (pds_cons (pds_set (i := 3) scDue.nd (pd_index (pd_var 0) pd_str))
      (pds_one (pds_par (i := 1) (j := 2) rfl scDue.nd (pda_cons (pd_slice rfl (pd_var 0) pdo_none (pdo_some (pd_var 3))) (pda_cons (pd_slice rfl (pd_var 0) (pdo_some (pd_op (do_add rfl) (pd_var 3) pd_int)) pdo_none) pda_nil))))) pds_nil)
      (pds_cons (pds_set (i := 4) scDue.nd (pd_split (pd_var 1) pd_str))
      (pds_cons (pds_if (pdt_w (pdw_or (pdt_cmp do_lt (pd_blt (do_len rfl) B.len (pda_cons (pd_var 4) pda_nil)) pd_int) (pdw_or1 (pdt_cmp (do_ne rfl hr.units) (pd_ix (do_ix rfl) (pd_var 4) pd_int) pd_str))))
      (pds_one (pds_ret pd_int)) pds_nil)
      (pds_cons (pds_if (pdt_cmp (do_ne rfl hr.units) (pd_fr (pf_lc (own := [("_law_word", 9)]) (W' := fun _ _ _ _ => False) scDue.nd (pdi_seq rfl (pd_op (do_add rfl) (pd_slice rfl (pd_var 4) pdo_none (pdo_some pd_int)) (pd_slice rfl (pd_var 4) (pdo_some pd_int) pdo_none))) (blkOk_by (N := nDue) (sc := defScope sDue) (by decide +kernel)) (fun _ _ _ _ _ => (pg_name (i := 9) scDue.nd rfl (by first | exact .inl rfl | exact .inr rfl))) (tg_nm 9) (fun _ _ _ _ _ => (pdts_one (pdt_not (pdt_val (pd_cal C__law_is_title (hr.mono (by decide)) (pda_cons (pd_var 9) pda_nil)))))) (fun _ _ _ _ _ => (pd_var 9)))) (pd_lst pda_nil))
      (pds_one (pds_ret pd_int)) pds_nil)
      (pds_cons (pds_own (i := 5) scDue.nd (pf_lst pda_nil))
      (pds_cons (pds_for PassesOwn.never (pdi_seq rfl (pd_ite (pdt_cmp do_notN (pd_var 2) pd_non) (pd_split (pd_var 2) pd_str) (pd_lst pda_nil))) (pg_name (i := 6) scDue.nd rfl (by first | exact .inl rfl | exact .inr rfl)) (tg_nm 6)
      (pds_cons (pds_set (i := 7) scDue.nd (pd_split (pd_var 6) pd_str))
      (pds_cons (pds_if (pdt_w (pdw_or (pdt_cmp (do_ne rfl hr.units) (pd_blt (do_len rfl) B.len (pda_cons (pd_var 7) pda_nil)) pd_int) (pdw_or (pdt_not (pdt_val (pd_cal C__law_is_title (hr.mono (by decide)) (pda_cons (pd_ix (do_ix rfl) (pd_var 7) pd_int) pda_nil)))) (pdw_or1 (pdt_not (pdt_val (pd_cal C__law_is_title (hr.mono (by decide)) (pda_cons (pd_ix (do_ix rfl) (pd_var 7) pd_int) pda_nil))))))))
      (pds_one (pds_ret pd_int)) pds_nil)
      (pds_cons (pds_if (pdt_not (pdt_val (pd_cal C__law_is_cost (hr.mono (by decide)) (pda_cons (pd_ix (do_ix rfl) (pd_var 7) pd_int) pda_nil))))
      (pds_one (pds_ret pd_int)) pds_nil)
      (pds_one (pds_expr (pd_app (pv 5) (pd_tup (pda_cons (pd_ix (do_ix rfl) (pd_var 7) pd_int) (pda_cons (pd_ix (do_ix rfl) (pd_var 7) pd_int) (pda_cons (pd_bty do_ints B.int (pda_cons (pd_ix (do_ix rfl) (pd_var 7) pd_int) pda_nil)) pda_nil)))))))))))
      (pds_cons (pds_set (i := 8) scDue.nd (pd_slice rfl (pd_var 4) (pdo_some pd_int) pdo_none))
      (pds_cons (pds_if (pdt_cmp do_lt (pd_lset rfl B.len B.set (pd_var 8)) (pd_blt (do_len rfl) B.len (pda_cons (pd_var 8) pda_nil)))
      (pds_one (pds_ret pd_str)) pds_nil)
      (pds_cons (pds_if (pdt_cmp (do_ne rfl hr.units) (pd_fr (pf_lc (own := [("_law_mark", 10)]) (W' := fun _ _ _ _ => False) scDue.nd (pdi_seq rfl (pd_var 5)) (blkOk_by (N := nDue) (sc := defScope sDue) (by decide +kernel)) (fun _ _ _ _ _ => (pg_name (i := 10) scDue.nd rfl (by first | exact .inl rfl | exact .inr rfl))) (tg_nm 10) (fun _ _ _ _ _ => (pdts_one (pdt_w (pdw_or (pdt_cmp (do_nin rfl (u65 hr)) (pd_ix (do_ix rfl) (pd_var 10) pd_int) (pd_var 8)) (pdw_or1 (pdt_cmp (do_nin rfl (u65 hr)) (pd_ix (do_ix rfl) (pd_var 10) pd_int) (pd_var 8))))))) (fun _ _ _ _ _ => (pd_var 10)))) (pd_lst pda_nil))
      (pds_one (pds_ret pd_str)) pds_nil)
      (pds_cons (pds_if (pdt_cmp do_lt (pd_lsetT rfl u64 B.len B.set (pd_fr (pf_lc (own := [("_law_mark", 10)]) (W' := fun _ _ _ _ => False) scDue.nd (pdi_seq rfl (pd_var 5)) (blkOk_by (N := nDue) (sc := defScope sDue) (by decide +kernel)) (fun _ _ _ _ _ => (pg_name (i := 10) scDue.nd rfl (by first | exact .inl rfl | exact .inr rfl))) (tg_nm 10) (fun _ _ _ _ _ => pdts_nil) (fun _ _ _ _ _ => (pd_slice rfl (pd_var 10) pdo_none (pdo_some pd_int)))))) (pd_blt (do_len rfl) B.len (pda_cons (pd_var 5) pda_nil)))
      (pds_one (pds_ret pd_str)) pds_nil)
      (pds_one (pds_ret (pd_cal C__law_stage_text (hr.mono (by decide)) (pda_cons (pd_tup (pda_cons (pd_ix (do_ix rfl) (pd_var 4) pd_int) (pda_cons (pd_blt (do_sort rfl) B.sorted (pda_cons (pd_var 8) pda_nil)) (pda_cons (pd_blt (do_sort rfl) B.sorted (pda_cons (pd_var 5) pda_nil)) pda_nil)))) pda_nil))))))))))))))), ?_⟩
  rintro ds P' R _ ⟨z, rfl, lz, ⟨hz, ha⟩, p⟩
  obtain ⟨l1, l2, l3⟩ := part_len z " go "
  have gl : (" go " : Str).length = 4 := by decide +kernel
  refine ⟨_, _, rfl, ?_⟩
  dsimp only
  refine seq_inv (fun ρ => ∃ (rest : Option Str) (s3 : Sl), ρ = [.val (.str z), .val (.str (Txt.partition z " go ").1), .val (optD .str rest), s3, .no, .no, .no, .no, .no, .no, .no] ∧ (match rest with | none => (Txt.partition z " go ").2.1.length = 0 | some t => (Txt.partition z " go ").2.1.length ≠ 0 ∧ t = (Txt.partition z " go ").2.2)) ?_ ?_
  · rintro ρ ⟨rest, s3, rfl, hrest⟩
    have lq : lowS 122 (Txt.partition z " go ").1 ∧ lowS 122 (Txt.partition z " go ").2.2 := lowS.part lz
    have hq : ∀ r, stepB z = r → toldP z P' := fun _ _ => p
    have e4 : ∀ (a m b : Str) (bs : List Str), Txt.split (Txt.partition z " go ").1 " " = a :: m :: b :: bs → stepB z = if (decide (m = "at") && (nameB a && (b :: bs).all nameB)) = true then (arrsB (Txt.partition z " go ")).map fun ar => (a, b :: bs, ar) else none := fun a m b bs e => by
      unfold stepB
      rw [e]
    have e3 : (Txt.split (Txt.partition z " go ").1 " ").length < 3 → stepB z = none := fun h => by
      unfold stepB
      match Txt.split (Txt.partition z " go ").1 " ", h with
      | [], _ => rfl
      | [_], _ => rfl
      | [_, _], _ => rfl
      | _ :: _ :: _ :: _, h => exact absurd h (by simp only [List.length_cons]; omega)
    have out : stepB z = none → P' (.int 0) := fun e => by
      unfold toldP at p
      rw [e] at p
      exact p
    generalize Txt.partition z " go " = q at l1 l2 l3 lq e4 e3 hrest ⊢
    refine ⟨⟨_, rfl⟩, q.1, " ", rfl, rfl, by decide +kernel, big_le (by omega), ?_⟩
    have hs : ∀ a ∈ Txt.split q.1 " ", a.length ≤ q.1.length := fun a h => part_short h
    have hlo : ∀ a ∈ Txt.split q.1 " ", lowS 122 a := lq.1.split (by decide +kernel) (by decide +kernel)
    have hn := split_le q.1 " "
    generalize Txt.split q.1 " " = ws at e4 e3 hs hlo hn ⊢
    refine ⟨_, rfl, trivial, _, rfl, ?_⟩
    match ws, e4, e3, hs, hlo, hn with
    | [], _, e3, _, _, _ => exact iteT (iteT (out (e3 (by decide))))
    | [a], _, e3, _, _, _ => exact iteT (iteT (out (e3 (by show 1 < 3; decide))))
    | [a, m], _, e3, _, _, _ => exact iteT (iteT (out (e3 (by show 2 < 3; decide))))
    | a :: m :: b :: bs, e4, _, hs, hlo, hn =>
      have e4 := e4 _ _ _ _ rfl
      rw [decide_eq_false (by rw [List.length_map, List.length_cons, List.length_cons, List.length_cons]; omega)]
      refine iteF ⟨_, atI_nat (j := 1) rfl, .inl rfl, _, rfl, ?_⟩
      rw [eq_dec]
      by_cases hm : m = "at"
      · rw [decide_eq_true hm] at e4 ⊢
        rw [Bool.true_and] at e4
        refine iteF ?_
        have c1 : ∀ l : List D, cutL l none (some 1) = l.take 1 := fun l => cut_to l 1
        have c2 : ∀ l : List D, cutL l (some 2) none = l.drop 2 := fun l => cut_from l 2
        refine ⟨_, rfl, _, rfl, _, rfl, _, rfl, ?_, _, rfl, ⟨trivial, trivial⟩, ?_⟩
        · rw [c1, c2]
          refine big_le ?_
          show 1 + ((b :: bs).map D.str).length ≤ _
          rw [List.length_map]
          simp only [List.length_cons] at hn ⊢
          omega
        rw [c1, c2]
        show cmpD _ _ _ _ _ ((a :: b :: bs).map D.str) [] _
        have hlen : (a :: b :: bs).length ≤ 3001 := by simp only [List.length_cons] at hn ⊢; omega
        have hin : ∀ y ∈ a :: b :: bs, lowS 122 y ∧ y.length ≤ 3000 := fun y hy => by
          have hy' : y ∈ a :: m :: b :: bs := by
            rcases List.mem_cons.mp hy with rfl | hy
            · exact List.mem_cons_self
            · exact List.mem_cons_of_mem _ (List.mem_cons_of_mem _ hy)
          have := hs y hy'
          exact ⟨hlo y hy', by omega⟩
        refine cmpD_pure (fun d => if isNameD d = true then none else some d) (by rw [List.length_map]; show 0 + _ ≤ _; omega) (fun d hd T hT => ?_) ?_
        · obtain ⟨y, hy, rfl⟩ := List.mem_map.mp hd
          obtain ⟨y1, y2⟩ := hin y hy
          refine ⟨rfl, y, rfl, y1.ok (by decide), by omega, _, rfl, rfl, ?_⟩
          show if (!nameB y) = true then _ else _
          have hT : T (if nameB y = true then none else some (.str y)) := hT
          cases hn : nameB y with
          | true => rw [hn, if_pos rfl] at hT; exact iteF hT
          | false => rw [hn] at hT; exact iteT ⟨rfl, hT⟩
        rw [List.nil_append]
        have sh : shN 1 (.lst (((a :: b :: bs).map D.str).filterMap fun d => if isNameD d = true then none else some d)) = true := by
          refine shN_lst (n := 0) (fun x hx => ?_) (Nat.le_trans (List.length_filterMap_le _ _) (by rw [List.length_map]; omega))
          obtain ⟨d, hd, e⟩ := List.mem_filterMap.mp hx
          obtain ⟨y, hy, rfl⟩ := List.mem_map.mp hd
          obtain ⟨y1, y2⟩ := hin y hy
          split at e
          · cases e
          · cases e
            show (PyData.strOk y && decide (y.length ≤ 1000000)) = true
            rw [y1.ok (by decide), decide_eq_true (by omega)]
            rfl
        refine ⟨by decide, okEq_sh (n := 1) (m := 1) sh rfl (by decide), _, rfl, ?_⟩
        rw [dEq_nil, names_fm]
        have ea : (nameB a && (b :: bs).all nameB) = (a :: b :: bs).all nameB := rfl
        rw [ea] at e4
        cases hall : (a :: b :: bs).all nameB with
        | false =>
          rw [hall] at e4
          exact iteT (out e4)
        | true =>
          rw [hall, if_pos rfl] at e4
          refine iteF ?_
          have earr : arrsB q = allSome ((piecesOf rest).map arrB) := by
            unfold arrsB
            cases rest with
            | none =>
              rw [if_pos hrest]
              rfl
            | some t =>
              rw [if_neg hrest.1, hrest.2]
              rfl
          have hpc : ∀ y ∈ piecesOf rest, lowS 122 y ∧ y.length ≤ 3000 := fun y hy => by
            cases rest with
            | none => cases hy
            | some t =>
              obtain ⟨_, rfl⟩ := hrest
              have hy : y ∈ Txt.split q.2.2 ", " := hy
              have := part_short hy
              exact ⟨lq.2.split (by decide +kernel) (by decide +kernel) y hy, by omega⟩
          have hpl : (piecesOf rest).length ≤ 3002 := by
            cases rest with
            | none => exact Nat.zero_le _
            | some t =>
              obtain ⟨_, rfl⟩ := hrest
              have := split_le q.2.2 ", "
              show (Txt.split q.2.2 ", ").length ≤ _
              omega
          refine ⟨by decide, pieces_read (fun t e => ?_) ?_⟩
          · cases e
            obtain ⟨_, rfl⟩ := hrest
            exact big_le (by omega)
          generalize piecesOf rest = pcs at earr hpc hpl ⊢
          have bad : ∀ y ∈ pcs, arrB y = none → P' (.int 0) := fun y hy e => out (by
            rw [e4, earr, allSome_cut hy e]
            rfl)
          refine ⟨_, rfl, ?_⟩
          refine loopD_at (fun i ρ => ∃ (ts : List Tri) (s6 s7 : Sl), (pcs.take i).map arrB = ts.map some ∧ ρ = [.val (.str z), .val (.str q.1), .val (optD .str rest), s3, .val (.lst ((a :: m :: b :: bs).map .str)), .own (ts.map triD'), s6, s7, .no, .no, .no]) ?_ ?_ ⟨[], _, _, rfl, rfl⟩
          · rintro ρ ⟨ts, s6, s7, hts, rfl⟩
            rw [List.take_length] at hts
            have es : stepB z = some (a, b :: bs, ts) := by
              rw [e4, earr, allSome_map hts]
              rfl
            have td := stepB_told es
            have al : ts.length ≤ 60 := ha _ es
            have p : (match wrongR (a, b :: bs, ts) with
              | some w => P' (.str w)
              | none => ∀ ps' ts', ps'.Perm (b :: bs) → Asc ltS ps' → ts'.Perm ts → Asc ltT ts' → P' (.str (stepS a ps' ts'))) := by
              unfold toldP at p
              rw [es] at p
              exact p
            rw [wrongR_eq td] at p
            have p : (match (if decide (b :: bs).Nodup = true then (if insB (b :: bs) ts = true then (if keysB ts = true then (none : Option Str) else some ("arrows" : Str)) else some ("arrows" : Str)) else some ("places" : Str)) with
              | some w => P' (.str w)
              | none => ∀ ps' ts', ps'.Perm (b :: bs) → Asc ltS ps' → ts'.Perm ts → Asc ltT ts' → P' (.str (stepS a ps' ts'))) := p
            refine ⟨_, rfl, _, rfl, ?_⟩
            have e8 : cutL ((a :: m :: b :: bs).map D.str) (some 2) none = (b :: bs).map D.str := c2 _
            rw [e8]
            have hlen' : (b :: bs).length ≤ 3001 := by simp only [List.length_cons] at hlen ⊢; omega
            have hin' : ∀ y ∈ b :: bs, nameB y = true := td.pn
            refine ⟨_, b :: bs, rfl, strL_map _, Nat.lt_of_le_of_lt (show (b :: bs).length + 1 ≤ 4001 by omega) (by decide), fun k un => ?_⟩
            refine ⟨_, len_seq rfl, trivial, _, rfl, ?_⟩
            have ek : decide ((k : Int) < ((((b :: bs).map D.str).length : Nat) : Int)) = !decide (b :: bs).Nodup := by
              rw [List.length_map]
              by_cases nd : (b :: bs).Nodup
              · have := un.2.mpr nd
                rw [decide_eq_true nd, decide_eq_false (by omega)]; rfl
              · have h1 := un.1
                have h3 : k ≠ (b :: bs).length := fun z => nd (un.2.mp z)
                rw [decide_eq_false nd, decide_eq_true (by omega)]; rfl
            rw [ek]
            cases hnd : decide (b :: bs).Nodup with
            | false =>
              rw [hnd] at p
              exact iteT p
            | true =>
              rw [hnd] at p
              refine iteF ⟨_, rfl, ⟨trivial, trivial⟩, ?_⟩
              refine cmpD_pure (fun d => if markIn (b :: bs) d = true then none else some d) (by rw [List.length_map]; show 0 + _ ≤ _; omega) (fun d hd T hT => ?_) ?_
              · obtain ⟨t, ht, rfl⟩ := List.mem_map.mp hd
                refine ⟨_, atI_nat (j := 0) rfl, _, inB_strs, _, rfl, ?_⟩
                have hT : T (if (decide (t.1 ∈ b :: bs) && decide (t.2.1 ∈ b :: bs)) = true then none else some (triD' t)) := hT
                show if (!decide (t.1 ∈ b :: bs)) = true then _ else _
                cases h1 : decide (t.1 ∈ b :: bs) with
                | false =>
                  rw [h1] at hT
                  exact iteT ⟨rfl, iteT ⟨rfl, hT⟩⟩
                | true =>
                  rw [h1, Bool.true_and] at hT
                  refine iteF ⟨_, atI_nat (j := 1) rfl, _, inB_strs, _, rfl, rfl, ?_⟩
                  show if (!decide (t.2.1 ∈ b :: bs)) = true then _ else _
                  cases h2 : decide (t.2.1 ∈ b :: bs) with
                  | false =>
                    rw [h2] at hT
                    exact iteT ⟨rfl, hT⟩
                  | true =>
                    rw [h2] at hT
                    exact iteF hT
              rw [List.nil_append]
              have sh : shN 2 (.lst ((ts.map triD').filterMap fun d => if markIn (b :: bs) d = true then none else some d)) = true := by
                refine shN_lst (n := 1) (fun x hx => ?_) (Nat.le_trans (List.length_filterMap_le _ _) (by rw [List.length_map]; omega))
                obtain ⟨d, hd, e⟩ := List.mem_filterMap.mp hx
                obtain ⟨t, ht, rfl⟩ := List.mem_map.mp hd
                split at e
                · cases e
                · cases e
                  exact sh_tri ⟨(td.an t ht).1, (td.an t ht).2.1⟩
              refine ⟨by decide, okEq_sh (n := 2) (m := 1) sh rfl (by decide), _, rfl, ?_⟩
              rw [dEq_nil, marks_fm]
              cases hib : insB (b :: bs) ts with
              | false =>
                rw [hib] at p
                exact iteT p
              | true =>
                rw [hib] at p
                refine iteF ⟨_, rfl, ⟨trivial, trivial⟩, ?_⟩
                refine cmpD_map triD' (fun t => keysD (pairK t)) (by omega) (fun t ht' T hT => ⟨2, rfl, _, rfl, rfl, hT⟩) ?_
                refine ⟨ts.map pairK, ?_, by rw [List.length_map]; omega, fun k un => ?_⟩
                · rw [List.map_map]; rfl
                refine ⟨_, len_seq rfl, trivial, _, rfl, ?_⟩
                have ek : decide ((k : Int) < (((ts.map triD').length : Nat) : Int)) = !keysB ts := by
                  have h1 := un.1
                  have h2 := un.2
                  rw [List.length_map] at h1 h2 ⊢
                  rw [pairK_nodup] at h2
                  unfold keysB
                  by_cases nd : (ts.map fun t => (t.1, t.2.1)).Nodup
                  · have := h2.mpr nd
                    rw [decide_eq_true nd, decide_eq_false (by omega)]; rfl
                  · have h3 : k ≠ ts.length := fun z => nd (h2.mp z)
                    rw [decide_eq_false nd, decide_eq_true (by omega)]; rfl
                rw [ek]
                cases hkb : keysB ts with
                | false =>
                  rw [hkb] at p
                  exact iteT p
                | true =>
                  rw [hkb] at p
                  have p : ∀ ps' ts', ps'.Perm (b :: bs) → Asc ltS ps' → ts'.Perm ts → Asc ltT ts' → P' (.str (stepS a ps' ts')) := p
                  have wn : wrongR (a, b :: bs, ts) = none := by
                    rw [wrongR_eq td]
                    show (if decide (b :: bs).Nodup = true then (if insB (b :: bs) ts = true then (if keysB ts = true then (none : Option Str) else some ("arrows" : Str)) else some ("arrows" : Str)) else some ("places" : Str)) = none
                    rw [hnd, hib, hkb]
                    rfl
                  have g : GoodRow a (b :: bs) ts := td.good hz al wn
                  refine iteF ⟨_, atI_nat (j := 0) rfl, _, rfl, .inl ⟨b :: bs, strL_map _, fun ps' pp pa => ?_⟩⟩
                  refine ⟨_, rfl, .inr ⟨ts, tris_map ts, fun ts' tp ta => ?_⟩⟩
                  refine ⟨Nat.le_of_ble_eq_true rfl, rfl, (a, ps', ts'), rfl, g.perm pp tp, ?_⟩
                  exact p ps' ts' pp pa tp ta
          · rintro i y ρ T hy hT ⟨ts, s6, s7, hts, rfl⟩
            have hmem : y ∈ pcs := List.mem_of_getElem? hy
            have hi : i < pcs.length := lt_of_at hy
            obtain ⟨y1, y2⟩ := hpc y hmem
            have tl : ts.length ≤ 3002 := by
              have := congrArg List.length hts
              rw [List.length_map, List.length_map, List.length_take] at this
              omega
            refine ⟨⟨_, rfl⟩, y, " ", rfl, rfl, by decide +kernel, big_le (by omega), ?_⟩
            refine ⟨_, rfl, .inl rfl, _, rfl, ?_⟩
            have hs3 : ∀ x ∈ Txt.split y " ", x.length ≤ y.length := fun a h => part_short h
            have ho3 : ∀ x ∈ Txt.split y " ", lowS 122 x := y1.split (by decide +kernel) (by decide +kernel)
            rw [int_dec, List.length_map]
            by_cases h3 : (Txt.split y " ").length = 3
            · obtain ⟨x1, x2, x3, e⟩ := three h3
              rw [e] at hs3 ho3 ⊢
              have l1' := hs3 x1 (by simp)
              have l2' := hs3 x2 (by simp)
              have l3' := hs3 x3 (by simp)
              have ea3 : arrB y = if (nameB x1 && nameB x2) = true then (numB x3).map fun n => (x1, x2, n) else none := arrB_three e
              refine iteF ⟨_, atI_nat (j := 0) rfl, rfl, _, rfl, (ho3 x1 (by simp)).ok (by decide), by omega, _, rfl, ?_⟩
              show if (!nameB x1) = true then _ else _
              cases na : nameB x1 with
              | false =>
                rw [na] at ea3
                exact iteT (iteT (bad y hmem ea3))
              | true =>
                refine iteF ⟨_, atI_nat (j := 1) rfl, rfl, _, rfl, (ho3 x2 (by simp)).ok (by decide), by omega, _, rfl, ?_⟩
                show if (!nameB x2) = true then _ else _
                cases nb : nameB x2 with
                | false =>
                  rw [na, nb] at ea3
                  exact iteT (bad y hmem ea3)
                | true =>
                  rw [na, nb] at ea3
                  have ea3 : arrB y = (numB x3).map fun n => (x1, x2, n) := ea3
                  refine iteF ⟨_, atI_nat (j := 2) rfl, rfl, _, rfl, (ho3 x3 (by simp)).ok (by decide), by omega, _, rfl, ?_⟩
                  cases nc : numB x3 with
                  | none =>
                    rw [nc] at ea3
                    exact iteT (bad y hmem ea3)
                  | some n =>
                    rw [nc] at ea3
                    obtain ⟨hint, hl19⟩ := numB_int nc
                    refine iteF ⟨⟨_, rfl⟩, _, atI_nat (j := 0) rfl, _, atI_nat (j := 1) rfl, _, atI_nat (j := 2) rfl, x3, n, rfl, hint, by omega, (by show 3 ≤ sizeLine; decide), _, rfl, Nat.lt_of_le_of_lt (show (ts.map triD').length ≤ 3002 by rw [List.length_map]; exact tl) (by decide), hT _ ⟨ts ++ [(x1, x2, n)], .val (.str y), .val (.lst ([x1, x2, x3].map .str)), ?_, ?_⟩⟩
                    · rw [List.take_succ, hy, List.map_append, List.map_append, hts]
                      show _ ++ [arrB y] = _
                      rw [ea3]
                      rfl
                    · rw [List.map_append]
                      rfl
            · have ea3 : arrB y = none := arrB_else h3
              rw [decide_eq_false (by omega)]
              exact iteT (iteT (bad y hmem ea3))
      · rw [decide_eq_false hm] at e4 ⊢
        exact iteT (out e4)
  · intro T hT
    refine ⟨_, _, rfl, rfl, _, rfl, ?_⟩
    rcases part_cases z " go " with ⟨e0, ep⟩ | ⟨i, r, e0, ep, hi⟩
    · rw [e0]
      refine iteF (hT _ ⟨none, .no, ?_, ?_⟩)
      · rw [ep]
        rfl
      · rw [ep]
        rfl
    · rw [gl] at hi
      rw [e0]
      refine iteT ⟨⟨_, rfl⟩, z, " go ", i, r, rfl, rfl, e0, ?_⟩
      refine ⟨(i : Nat), rfl, .str (strSub z 0 i), ?_, ?_⟩
      · show (if z.length ≤ sizeLine then some (D.str (cutS z none (some (i : Nat)))) else none) = _
        rw [if_pos (big_le (by omega)), cut_front (by omega)]
      refine ⟨(i : Nat) + 4, rfl, .str (strSub z (i + 4) z.length), ?_, _, _, rfl, hT _ ⟨some (strSub z (i + 4) z.length), .val (.int (i : Nat)), ?_, ?_⟩⟩
      · show (if z.length ≤ sizeLine then some (D.str (cutS z (some ((i : Nat) + 4)) none)) else none) = _
        have ei : ((i : Nat) : Int) + 4 = ((i + 4 : Nat) : Int) := by omega
        rw [if_pos (big_le (by omega)), ei, cut_back (by omega)]
      · rw [ep]
        rfl
      · rw [ep, gl]
        exact ⟨by decide, rfl⟩
end
end Vf

set_option Elab.async false
set_option linter.all false
set_option maxRecDepth 100000
set_option maxHeartbeats 4000000
/-! try with several clauses, each with a name -/
namespace Vf
open PySem PySem.Spec PyProof.Rows L2
abbrev Cl := Value × Nat × (Addr → Value → Option Addr → TS)
inductive HdA (X : Cx) : List ExceptHandler → List Cl → Prop
  | nil : HdA X [] []
  | cons {x n : Str} {c : Value} {i : Nat} {ts : Addr → Value → Option Addr → TS} {st : Stmt} {sts : List Stmt} {q1 q2 : Pos} {es : List ExceptHandler} {l : List Cl} (iN : X.N[i]? = some n) (iL : X.env.kindOf n = some .local) (nc : L2.Names X x c)
      (su : ∀ (e : Addr) (o : Obj) (cls : Value) (d : Option Addr) (pn : List (Addr × Obj)), Zc cls d o → (∃ vs, o.data = .fields vs) → PSs (X.suite e ((e, o) :: pn)) (st :: sts) (ts e cls d)) (more : HdA X es l) :
      HdA X (.ExceptHandler (some (.Name x q1)) (some n) (st :: sts) q2 :: es) ((c, i, ts) :: l)
/-- the suite's end: the name is gone -/
def endsA (D : Ends) (i : Nat) : Ends := { nx := fun σ H => D.nx (σ.set i none) H, rt := D.rt, bk := fun σ H => D.bk (σ.set i none) H, ct := fun σ H => D.ct (σ.set i none) H }
def wAm (K : PySem.W.Frag) (W0 : WX) (D : Ends) : List Cl → WX
  | [] => W0
  | (c, i, ts) :: l => fun cls d σ H => ∃ b, PySem.W.exmOne K cls c = some b ∧ (b = true → ∀ e, H e = none → ts e cls d (endsA D i) (σ.set i (some (.ref e))) H) ∧ (b = false → wAm K W0 D l cls d σ H)
section
variable {X : Cx} {body : List Stmt} {e1 : ExceptHandler} {es : List ExceptHandler} {l : List Cl} {q0 : Pos} {tb : WX → TS} {W0 : WX}
theorem ps_tryA (hst : X.stack = X.env :: X.outer) (hfr : X.env.frame = some X.env.locals) (nd : X.N.Nodup) (tk : Takes X W0)
    (hb : ∀ (W : WX) (pn : List (Addr × Obj)) (xe : Value → Shared → Prop), Takes (X.tr pn xe) W → PassesOwn (model X.prog X.w) X.A X.env xe → PSs (X.tr pn xe) body (tb W)) (hh : HdA X (e1 :: es) l) :
    PS X (.Try body (e1 :: es) [] [] q0) (fun D σ H => tb (wAm X.K W0 D l) D σ H) := by
  refine ⟨fun pins s σ H D I h => ?_⟩
  have okI := I.ok
  have frs1 : X.A.frames = some (X.env :: X.outer) := okI.frames.trans (congrArg some hst)
  refine wpAny_Try_except ?_
  obtain ⟨xe1, hxe1⟩ : ∃ y : Value → Shared → Prop, y = fun v z => wpAny (model X.prog X.w) X.A (noteFrame v X.env) (fun _ z2 => wpAny (model X.prog X.w) X.A (setFlight v none) (fun _ z3 => wpAny (model X.prog X.w) X.A (handleBy v X.env (e1 :: es)) (SP X pins D) X.xe z3) X.xe z2) X.xe z := ⟨_, rfl⟩
  have caught : Takes (X.tr (X.pn ++ pins) xe1) (wAm X.K W0 D l) := by
    intro u z xx
    rw [hxe1]
    obtain ⟨e, B, zI, pins2, τ, G, cls, d, rfl, J0, nb, up, sky, ne, os, ag, w⟩ := xx
    have J : Inv X pins τ G zI := J0.ofTry okI
    have sky2 : Sky B (X.env :: X.outer) e (Zc cls d) X.env.locals z.heap := hst ▸ sky
    show wpAny (model X.prog X.w) X.A (noteFrame (.ref e) X.env) _ _ _
    refine Sky.land Zc.steady frs1 hfr sky2 fun g fl upg => ?_
    have Jg : Inv X pins τ G { z with heap := g } := J.landed nb fl.1 (up.trans upg) os ag
    obtain ⟨og, vg, eg, zg, dg⟩ := fl.there
    have off : e ∉ frs (X.env :: X.outer) := fun m => by
      obtain ⟨_, o2, e2, no⟩ := fl.2.2.1.mem m
      rw [eg] at e2
      cases e2
      exact no _ dg
    have offL : e ≠ X.env.locals := fun y => off (List.mem_filterMap.mpr ⟨X.env, List.mem_cons_self, hfr.trans (congrArg some y.symm)⟩)
    have offF : e ∉ X.fs := fun m => by
      obtain ⟨v, hv, y⟩ := List.mem_filterMap.mp m
      exact off (List.mem_filterMap.mpr ⟨v, List.mem_cons_of_mem _ hv, y⟩)
    have Sg := Jg.suite eg dg ne offL offF
    have Lk : PySem.W.Looks (model X.prog X.w) g (typeOf (.ref e)) cls := fun _ _ _ _ kk y => wpAny_typeOf_ref (kk _ _ eg) (by rw [zg.1]; exact y)
    have go : ∀ {fs : List ExceptHandler} {r : List Cl}, HdA X fs r → wAm X.K W0 D r cls d τ G → wpAny (model X.prog X.w) X.A (handleBy (.ref e) X.env fs) (SP X pins D) X.xe { z with heap := g } := by
      intro fs r hk
      induction hk with
      | nil =>
        intro w
        refine wpAny_handleBy_nil ?_
        obtain ⟨_, _, _, o2, v2, T2, _, _, a1, _, a3, a4, _⟩ := id fl
        unfold PySem.passOn
        refine wpAny_bind (wpAny_field a1 a3 a4 ?_)
        rw [if_neg (show ¬ ((Value.ref T2 == Value.none) = true) by simp)]
        have last : wpAny (model X.prog X.w) X.A (setFlight (.ref e) X.env.frame) (fun _ y => wpAny (model X.prog X.w) X.A (throw (.ref e) : Sem Flow) (SP X pins D) X.xe y) X.xe { z with heap := g } := by
          rw [hfr]
          refine HandSPX.setFlight_upZ fl fun g2 held up2 => wpAny_throw (tk _ _ ?_)
          exact ⟨e, B, zI, pins, τ, G, cls, d, rfl, J, nb, (up.trans upg).trans up2, .inr (.inr (by rw [hst]; exact held)), ne, os, ag, w⟩
        first
          | exact wpAny_bind (wpAny_pure (wpAny_bind last))
          | exact wpAny_bind last
      | @cons x n c i ts st sts q1 q2 fs2 r2 iN iL nc su more ih =>
        rintro ⟨b, b1, yes, no⟩
        refine wpAny_handleBy_cons (codeAny_handlers_test ?_) (by intro y; cases y)
        have Lm := PySem.W.exm_one (M := model X.prog X.w) Jg.kIn Lk b1
        have looked : ∀ {R : Value → Shared → Prop} {F : Value → Shared → Prop}, R c { z with heap := g } → wpAny (model X.prog X.w) (X.A.mark (some (.ref e))) (eval (.Name x q1) X.env) R F { z with heap := g } := fun {R F} y => by
          obtain ⟨n1, n2, n3 | ⟨n3, n4, n5⟩⟩ := nc
          · exact ld_glob (X := X.suite e ((e, og) :: (X.pn ++ pins))) Sg n1 n3 y n2
          · exact ld_blt (X := X.suite e ((e, og) :: (X.pn ++ pins))) Sg n1 n3 n4 y n5 n2
        refine looked (Lm.here ?_)
        cases b with
        | false => exact ih (no rfl)
        | true =>
          refine codeAny_handlers_suite_as ?_
          refine HandSPX.lands_againZ fl fun g4 fl4 up4 => ?_
          have J4 : Inv X pins τ G { z with heap := g4 } := J.landed nb fl4.1 ((up.trans upg).trans up4) os ag
          obtain ⟨o4, v4, e4, z4, d4⟩ := fl4.there
          have S4 := J4.suite e4 d4 ne offL offF
          refine store_ok (X := X.suite e ((e, o4) :: (X.pn ++ pins))) (v := V.ref e) S4 nd iN (.inl iL) rfl (fun s5 S5 => ?_) (.inr iL)
          refine wpAny_mono ((su e o4 cls d (X.pn ++ pins) z4 ⟨_, d4⟩).run [] s5 _ G _ S5 (yes rfl e ne)) (fun f s6 hs6 => ?_) fun _ _ y => y.elim
          have gone : ∀ {τ6 : L2.St} {G6 : Hp} {R : Shared → Prop}, Inv (X.suite e ((e, o4) :: (X.pn ++ pins))) [] τ6 G6 s6 → (∀ s7, Inv X pins (τ6.set i none) G6 s7 → R s7) →
              wpAny (model X.prog X.w) X.A (do bindName X.env n .none; unbindBehindTheSuite X.env n q2) (fun _ s7 => R s7) X.xe s6 := fun {τ6 G6 R} S6 y => gone_ok (S6.unsuite okI) nd iN iL y
          cases f with
          | ret u =>
            obtain ⟨y6, τ6, G6, S6, r6, k6⟩ := hs6
            exact gone S6 fun s7 J7 => ⟨_, _, _, J7, r6, k6⟩
          | next =>
            obtain ⟨τ6, G6, S6, k6⟩ := hs6
            exact gone S6 fun s7 J7 => ⟨_, _, J7, k6⟩
          | brk =>
            obtain ⟨τ6, G6, S6, k6⟩ := hs6
            exact gone S6 fun s7 J7 => ⟨_, _, J7, k6⟩
          | cont =>
            obtain ⟨τ6, G6, S6, k6⟩ := hs6
            exact gone S6 fun s7 J7 => ⟨_, _, J7, k6⟩
    exact go hh w
  have main := (hb (wAm X.K W0 D l) (X.pn ++ pins) xe1 caught (by rw [hxe1]; exact PassesOwn.looking)).run [] s σ H D (I.toTry _) h
  refine wpAny_mono main (fun f s1 hs1 => ?_) fun v z hz => by rw [hxe1] at hz; exact hz
  cases f with
  | ret u =>
    obtain ⟨v, τ, G, J, r, k⟩ := hs1
    exact ⟨v, τ, G, J.ofTry okI, r, k⟩
  | next =>
    obtain ⟨τ, G, J, k⟩ := hs1
    exact wpAny_execs_nil ⟨τ, G, J.ofTry okI, k⟩
  | brk =>
    obtain ⟨τ, G, J, k⟩ := hs1
    exact ⟨τ, G, J.ofTry okI, k⟩
  | cont =>
    obtain ⟨τ, G, J, k⟩ := hs1
    exact ⟨τ, G, J.ofTry okI, k⟩
end
end Vf

set_option Elab.async false
set_option linter.all false
set_option maxRecDepth 100000
set_option maxHeartbeats 1000000
/-! try, by data: what was caught, its field, its class -/
namespace Vf
open PySem PySem.Spec PyProof.Rows L2
/-- nothing flies -/
abbrev WF : WX := fun _ _ _ _ => False
abbrev ClD := Value × Nat × (Addr → Value → Option Addr → DS)
def endsI (i : Nat) (e : De) : De := { nx := fun ρ => e.nx (ρ.set i .no), rt := e.rt, bk := fun ρ => e.bk (ρ.set i .no), ct := fun ρ => e.ct (ρ.set i .no), rz := fun _ _ => False }
/-- by which clause an error goes on -/
def handS (K : PySem.W.Frag) (e : De) : List ClD → Xd → Ev → Prop
  | [], x, ρ => e.rz x ρ
  | (c, i, F) :: l, x, ρ => ∃ b, PySem.W.exmOne K (.ref x.c) c = some b ∧ (b = true → ∀ ea e0, F ea (.ref x.c) (some e0) (ρ.set i (.val (.exc ea e0 x.f x.d))) (endsI i e)) ∧ (b = false → handS K e l x ρ)
def tryS (K : PySem.W.Frag) (F : DS) (l : List ClD) : DS := fun ρ e => F ρ { e with rz := handS K e l }
section
variable {X : Cx} {K : PySem.W.Frag} {W : WX}
inductive HdD (K : PySem.W.Frag) (X : Cx) : List ExceptHandler → List ClD → Prop
  | nil : HdD K X [] []
  | cons {x n : Str} {c : Value} {i : Nat} {F : Addr → Value → Option Addr → DS} {st : Stmt} {sts : List Stmt} {q1 q2 : Pos} {es : List ExceptHandler} {l : List ClD} (iN : X.N[i]? = some n) (iL : X.env.kindOf n = some .local) (nc : L2.Names X x c)
      (su : ∀ (e : Addr) (o : Obj) (cls : Value) (d : Option Addr) (pn : List (Addr × Obj)), Zc cls d o → (∃ vs, o.data = .fields vs) → PDSs K WF (X.suite e ((e, o) :: pn)) (st :: sts) (F e cls d)) (more : HdD K X es l) :
      HdD K X (.ExceptHandler (some (.Name x q1)) (some n) (st :: sts) q2 :: es) ((c, i, F) :: l)
def clA (K : PySem.W.Frag) (l : List ClD) : List Cl := l.map fun p => (p.1, p.2.1, fun e cls d => LS K WF (p.2.2 e cls d))
theorem HdD.a {es : List ExceptHandler} {l : List ClD} (h : HdD K X es l) : HdA X es (clA K l) := by
  induction h with
  | nil => exact .nil
  | cons iN iL nc su more ih => exact .cons iN iL nc su ih
/-- what was caught is laid down -/
theorem Rep.caught {c : Ct} {σ : L2.St} {H G : Hp} {ρ : Ev} (r : Rep K c σ H G ρ) {e e0 : Addr} {f : Str} {v : V} {d : D} {i : Nat} (q : Rp K G v d) (n : H e0 = none) :
    Rep K c (σ.set i (some (.ref e))) (upd H e0 (.xd [(f, v)])) (upd G e0 (.xd [(f, v)])) (ρ.set i (.val (.exc e e0 f d))) ∧ Same G (upd G e0 (.xd [(f, v)])) := by
  have gn : G e0 = none := r.gh.free n
  have s1 : Same G (upd G e0 (.xd [(f, v)])) := same_new gn
  have s2 : Same (upd G e0 (.xd [(f, v)])) (upd H e0 (.xd [(f, v)])) := fun a o h => by
    by_cases z : a = e0
    · rw [z, upd_same] at h ⊢
      exact h
    · rw [upd_ne z] at h ⊢
      exact r.gh a o h
  have ex : Ext H G (upd H e0 (.xd [(f, v)])) (upd G e0 (.xd [(f, v)])) := ⟨same_new n, s1, s2, fun a h => by
    by_cases z : a = e0
    · exact .inr (by rw [z]; exact n)
    · rw [upd_ne z] at h
      exact .inl h⟩
  refine ⟨(r.ext ex).putVal ?_, s1⟩
  exact ⟨rfl, v, upd_same, q.mono s1⟩
theorem hand_ok {c : Ct} {G : Hp} {e : De} {D : Ends} (o : O4 K W c G e D) : ∀ l : List ClD, ∀ σ', LX K (wAm K W D (clA K l)) c σ' G (handS K e l)
  | [], σ' => o.rz σ'
  | (cc, i, F) :: l, σ' => by
    intro x ρ' e0 v H' G' hx r s q n
    obtain ⟨b, eb, yes, no⟩ := hx
    refine ⟨b, eb, fun hb ea hea => ?_, fun hb => hand_ok o l σ' x ρ' e0 v H' G' (no hb) r s q n⟩
    obtain ⟨r2, s2⟩ := r.caught (e := ea) (f := x.f) (i := i) q n
    refine ⟨c, _, _, endsI i e, r2, yes hb ea e0, ?_⟩
    have s3 := s.trans s2
    exact ⟨fun ρ2 σ2 H2 G2 f2 t2 u2 => o.nx _ _ _ _ f2 t2.putNo (s3.trans u2), fun d ρ2 σ2 v2 H2 G2 f2 t2 u2 q2 => o.rt d _ _ _ _ _ f2 t2 (s3.trans u2) q2, fun ρ2 σ2 H2 G2 f2 t2 u2 => o.bk _ _ _ _ f2 t2.putNo (s3.trans u2), fun ρ2 σ2 H2 G2 f2 t2 u2 => o.ct _ _ _ _ f2 t2.putNo (s3.trans u2), fun σ3 x3 ρ3 e3 v3 H3 G3 f3 _ _ _ _ => f3.elim⟩
theorem pds_try {body : List Stmt} {e1 : ExceptHandler} {es : List ExceptHandler} {l : List ClD} {q0 : Pos} {F : DS} (hst : X.stack = X.env :: X.outer) (hfr : X.env.frame = some X.env.locals) (nd : X.N.Nodup) (tk : Takes X W)
    (hb : ∀ (W1 : WX) (pn : List (Addr × Obj)) (xe : Value → Shared → Prop), Takes (X.tr pn xe) W1 → PassesOwn (model X.prog X.w) X.A X.env xe → PDSs K W1 (X.tr pn xe) body F) (hh : HdD K X (e1 :: es) l) (hK : X.K = K := by rfl) : PDS K W X (.Try body (e1 :: es) [] [] q0) (tryS K F l) := by
  subst hK
  refine PS.imp (ps_tryA (tb := fun W1 => LS X.K W1 F) hst hfr nd tk hb hh.a) fun D σ H ⟨c, G, ρ, e, r, f, o⟩ => ?_
  exact ⟨c, G, ρ, _, r, f, ⟨o.nx, o.rt, o.bk, o.ct, hand_ok o l⟩⟩
variable {ea : Addr} {oe : Obj} {cls : Value} {d : Option Addr} {pn : List (Addr × Obj)}
/-- the field of what was caught -/
def excD (C : Addr) (cls : Value) (d : Option Addr) (ea : Addr) (i : Nat) (f : Str) : DE := fun ρ P _ => cls = .ref C ∧ ∃ e0 dd, d = some e0 ∧ ρ[i]? = some (.val (.exc ea e0 f dd)) ∧ P dd ρ
theorem pd_xf {C : Addr} {i : Nat} {f y : Str} {py pos : Pos} (T : XfC X.K C) (hno : PySem.W.findIn X.K (.ref C) f = some none) (hz : Zc cls d oe) (hf : ∃ vs, oe.data = .fields vs) (hv : PE (X.suite ea ((ea, oe) :: pn)) (.Name y py) (tVar i))
    (hb : attributeBase (.Name y py) f X.env (eval (.Name y py) X.env) = eval (.Name y py) X.env := by rfl) : PD K W (X.suite ea ((ea, oe) :: pn)) (.Attribute (.Name y py) f pos) (excD C cls d ea i f) := by
  refine PE.imp (pe_xf T hno hz hf hv hb) fun σ H Q ⟨c, G, ρ, P, R, r, ⟨e1, e0, dd, e2, e3, p⟩, k, _⟩ => ?_
  obtain ⟨v, ev, q⟩ := r.val e3
  obtain ⟨rfl, u, eu, qu⟩ := q
  refine ⟨_, ev, rfl, e1, e0, [(f, u)], u, e2, r.gh _ _ eu, ?_, k _ _ _ _ _ p r (Same.refl _) qu⟩
  simp [List.lookup]
/-- isinstance(e, C') of what was caught -/
def isSG (K : PySem.W.Frag) (C : Addr) (cls : Value) (d : Option Addr) (ea : Addr) : Gn := two fun a b P => cls = .ref C ∧ ∃ e0 f dd C' bb, d = some e0 ∧ a = .exc ea e0 f dd ∧ b = .obj C' ∧ PySem.W.kitOne K (.ref C) (.ref C') = some bb ∧ P (.bl bb)
theorem do_isS {C : Addr} (hK : X.K = K) (T : ExcC K C) (hz : Zc cls d oe) (hf : ∃ vs, oe.data = .fields vs) : CallR (X.suite ea ((ea, oe) :: pn)) (.builtin "isinstance") (RDn K (isSG K C cls d ea)) := by
  subst hK
  refine call_two fun pins s σ H v w us Q I rv ⟨G, a, b, P, sg, ra, rb, ⟨e1, e0, f, dd, C', bb, e2, e3, e4, ek, q⟩, kk⟩ => ?_
  subst e1 e2 e3 e4
  obtain ⟨rfl, u, eu, qu⟩ := ra
  cases (show w = _ from rb)
  obtain ⟨u1, u2, rfl, r1, r2⟩ := vals2 rv
  cases r1
  cases r2
  obtain ⟨hp, _⟩ := I.pin (ea, oe) (List.mem_append_left _ List.mem_cons_self)
  obtain ⟨vs, hd⟩ := hf
  obtain ⟨mA, hns, hr⟩ : ObjOk X.prog X.w H s.heap e0 (.xd [(f, u)]) := I.hok e0 _ (sg _ _ eu)
  obtain ⟨od, ho, hl⟩ := lookIn_ns hns
  have J : PySem.W.InstAt s.heap ea oe C (some od) := ⟨hp, hz.1, by unfold PySem.W.notCls; rw [hd] <;> rfl, by rw [hz.2]; exact ho⟩
  exact PySem.W.kia_one (xk_kit T) I.kIn ⟨_, _, J⟩ ek (fun z => nomatch z) fun tk => ⟨.bl bb, H, I.tok tk, rfl, kk _ _ _ _ q (Ext.refl sg) rfl⟩
end
end Vf

set_option Elab.async false
set_option linter.all false
set_option maxRecDepth 100000
set_option maxHeartbeats 1000000
/-! what was caught, of whatever class; break -/
namespace Vf
open PySem PySem.Spec PyProof.Rows L2
section
variable {X : Cx} {K : PySem.W.Frag} {W : WX}
def bkS : DS := fun ρ e => e.bk ρ
theorem pds_break {pos : Pos} : PDS K W X (.Break pos) bkS := PS.imp ps_break fun D σ H ⟨c, G, ρ, e, r, f, o⟩ => o.bk _ _ _ _ f r (Same.refl _)
variable {ea : Addr} {oe : Obj} {cls : Value} {d : Option Addr} {pn : List (Addr × Obj)}
/-- the field of what was caught, of any class that has it not itself -/
def excVD (K : PySem.W.Frag) (cls : Value) (d : Option Addr) (ea : Addr) (i : Nat) (f : Str) : DE := fun ρ P R => ∃ C, XfC K C ∧ PySem.W.findIn K (.ref C) f = some none ∧ excD C cls d ea i f ρ P R
theorem pd_xfV {i : Nat} {f y : Str} {py pos : Pos} (hK : X.K = K) (hz : Zc cls d oe) (hf : ∃ vs, oe.data = .fields vs) (hv : PE (X.suite ea ((ea, oe) :: pn)) (.Name y py) (tVar i))
    (hb : attributeBase (.Name y py) f X.env (eval (.Name y py) X.env) = eval (.Name y py) X.env := by rfl) : PD K W (X.suite ea ((ea, oe) :: pn)) (.Attribute (.Name y py) f pos) (excVD K cls d ea i f) := by
  subst hK
  refine ⟨fun pins s σ H Q I h => ?_⟩
  obtain ⟨c, G, ρ, P, R, r, ⟨C, T, hno, q⟩, k, kx⟩ := h
  exact (pd_xf (K := X.K) (W := W) (C := C) T hno hz hf hv hb).run pins s σ H Q I ⟨c, G, ρ, P, R, r, q, k, kx⟩
def isSVG (K : PySem.W.Frag) (cls : Value) (d : Option Addr) (ea : Addr) : Gn := fun ds P => ∃ C, ExcC K C ∧ isSG K C cls d ea ds P
theorem do_isSV (hK : X.K = K) (hz : Zc cls d oe) (hf : ∃ vs, oe.data = .fields vs) : CallR (X.suite ea ((ea, oe) :: pn)) (.builtin "isinstance") (RDn K (isSVG K cls d ea)) := by
  intro pins s σ H xs us Q I rv h
  obtain ⟨G, ds, P, sg, ra, ⟨C, T, q⟩, kk⟩ := h
  exact do_isS (C := C) hK T hz hf pins s σ H xs us Q I rv ⟨G, ds, P, sg, ra, q, kk⟩
end
end Vf

set_option Elab.async false
set_option linter.all false
set_option maxRecDepth 100000
set_option maxHeartbeats 1000000
/-! try that catches all, by data -/
namespace Vf
open PySem PySem.Spec PyProof.Rows L2
section
variable {X : Cx} {K : PySem.W.Frag} {W : WX}
/-- all that flies is caught -/
def tryS0 (K : PySem.W.Frag) (F : DS) (l : List ClD) : DS := fun ρ e => F ρ { e with rz := handS K { e with rz := fun _ _ => False } l }
theorem pds_try0 {body : List Stmt} {e1 : ExceptHandler} {es : List ExceptHandler} {l : List ClD} {q0 : Pos} {F : DS} (hst : X.stack = X.env :: X.outer) (hfr : X.env.frame = some X.env.locals) (nd : X.N.Nodup) (tk : Takes X WF)
    (hb : ∀ (W1 : WX) (pn : List (Addr × Obj)) (xe : Value → Shared → Prop), Takes (X.tr pn xe) W1 → PassesOwn (model X.prog X.w) X.A X.env xe → PDSs K W1 (X.tr pn xe) body F) (hh : HdD K X (e1 :: es) l) (hK : X.K = K := by rfl) : PDS K W X (.Try body (e1 :: es) [] [] q0) (tryS0 K F l) := by
  subst hK
  refine PS.imp (ps_tryA (W0 := WF) (tb := fun W1 => LS X.K W1 F) hst hfr nd tk hb hh.a) fun D σ H ⟨c, G, ρ, e, r, f, o⟩ => ?_
  have o' : O4 X.K WF c G { e with rz := fun _ _ => False } D := ⟨o.nx, o.rt, o.bk, o.ct, fun σ x ρ' e' v H' G' f _ _ _ _ => f.elim⟩
  exact ⟨c, G, ρ, _, r, f, ⟨o.nx, o.rt, o.bk, o.ct, hand_ok o' l⟩⟩
end
end Vf

set_option Elab.async false
set_option linter.all false
set_option maxRecDepth 100000
set_option maxHeartbeats 1000000
/-! what is heard of a line -/
namespace Vf
open PySem PySem.Spec PyProof.Rows L2
/-- the classes of what may fly, as heard -/
structure Flies4 (K : PySem.W.Frag) (mg : Str → Option Value) (PE CI CT : Addr) : Prop where
  gP : mg "PlateError" = some (.ref PE)
  exI : PySem.W.exmOne K (.ref CI) (.ref PE) = some true
  exT : PySem.W.exmOne K (.ref CT) (.ref PE) = some true
  kII : PySem.W.kitOne K (.ref CI) (.ref CI) = some true
  kIT : PySem.W.kitOne K (.ref CI) (.ref CT) = some false
  kTT : PySem.W.kitOne K (.ref CT) (.ref CT) = some true
  kTI : PySem.W.kitOne K (.ref CT) (.ref CI) = some false
section
variable {P : Program} {w : World} {K : PySem.W.Frag} {mg : Str → Option Value} {base : Heap} {cs : List Addr}
def heardM4 : Mc := fun ds P _ => ∃ z, ds = [.str z] ∧ ReadOk z ∧ toldP z P
abbrev nHeard : List Str := ["_law_line", "_law_found", "e"]
theorem scHeard : FnScope nHeard ["_law_line"] (defScope sHeard) := ⟨rfl, rfl, rfl, by decide +kernel, rfl, by decide +kernel, by decide +kernel⟩
theorem cal_heard4 {f C PE CI CT fX fT : Addr} {fd dX dT : FuncData} (F : Df K mg "_law_heard" sHeard ["_law_line"] f fd) (B : Bt mg) (S : CalS P w K mg base C 1 (stepStrM C)) (N : IsTxt K mg CI fX dX) (N2 : IsAt K mg CT fT dT) (Y : Flies4 K mg PE CI CT) (R_Step : CalCX P w K mg base "Step" C "read" 7 2 (stepReadM C CI CT)) : Cal0 P w K mg base "_law_heard" 8 1 heardM4 := by
  have TI : ExcC K CI := N.X.ex
  have TT : ExcC K CT := N2.X.ex
  refine ⟨f, fd, _, okD F.F scHeard rfl (fun cdv A outer s H E hr => ?_), F.g, F.F.kp, F.b⟩
  refine ⟨_, (pds_cons (pds_set (i := 1) scHeard.nd pd_str)
    (pds_cons (pds_try0 rfl rfl scHeard.nd takes0
      (fun W1 pn xe tk _ => pds_one (pds_set (i := 1) scHeard.nd (pd_bty (do_strO rfl S (hr.mono (by decide))) B.str (pda_cons (pd_calCX tk R_Step (hr.mono (by decide)) (pda_cons (pd_var 0) pda_nil)) pda_nil))))
      (HdD.cons (i := 2) (c := .ref PE) rfl rfl ⟨rfl, by decide, .inl Y.gP⟩ (fun e o cls d pn hz hf => pds_one (pds_if (pdt_w (pdw_and (pdt_val (pd_blt (do_isSV rfl hz hf) B.isinstance (pda_cons (pd_var 2) (pda_cons (pd_con (pe_glob (v := .ref CT) rfl N2.X.gC rfl) (fun _ => rfl) (d := .obj CT)) pda_nil)))) (pdw_and1 (pdt_not (pdt_val (pd_blt (do_isSV rfl hz hf) B.isinstance (pda_cons (pd_var 2) (pda_cons (pd_con (pe_glob (v := .ref CI) rfl N.X.gC rfl) (fun _ => rfl) (d := .obj CI)) pda_nil))))))))
        (pds_one (pds_set (i := 1) scHeard.nd (pd_xfV rfl hz hf (pv 2))))
        (pds_one (pds_if (pdt_val (pd_blt (do_isSV rfl hz hf) B.isinstance (pda_cons (pd_var 2) (pda_cons (pd_con (pe_glob (v := .ref CI) rfl N.X.gC rfl) (fun _ => rfl) (d := .obj CI)) pda_nil))))
          (pds_one (pds_set (i := 1) scHeard.nd (pd_xfV rfl hz hf (pv 2)))) pds_nil)))) HdD.nil))
    (pds_one (pds_ret (pd_var 1))))), ?_⟩
  rintro ds P' R _ ⟨z, rfl, hz, q⟩
  refine ⟨rfl, z, rfl, hz, ?_⟩
  unfold readP
  unfold toldP at q
  cases e : stepB z with
  | none =>
    rw [e] at q
    refine ⟨true, Y.exT, fun _ ea e0 => ?_, fun z => nomatch z⟩
    refine ⟨CT, TT, rfl, e0, _, _, CT, true, rfl, rfl, rfl, Y.kTT, _, rfl, iteT ?_⟩
    refine ⟨CT, TT, rfl, e0, _, _, CI, false, rfl, rfl, rfl, Y.kTI, _, rfl, iteT ?_⟩
    exact ⟨CT, ⟨TT.hg, TT.hk, TT.hs, TT.hd⟩, N2.X.no, rfl, e0, _, rfl, rfl, q⟩
  | some r =>
    rw [e] at q
    have q : (match wrongR r with
      | some w => P' (.str w)
      | none => ∀ ps' ts', ps'.Perm r.2.1 → Asc ltS ps' → ts'.Perm r.2.2 → Asc ltT ts' → P' (.str (stepS r.1 ps' ts'))) := q
    dsimp only
    cases ew : wrongR r with
    | some w =>
      rw [ew] at q
      refine ⟨true, Y.exI, fun _ ea e0 => ?_, fun z => nomatch z⟩
      refine ⟨CI, TI, rfl, e0, _, _, CT, false, rfl, rfl, rfl, Y.kIT, _, rfl, iteF ?_⟩
      refine ⟨CI, TI, rfl, e0, _, _, CI, true, rfl, rfl, rfl, Y.kII, _, rfl, iteT ?_⟩
      exact ⟨CI, ⟨TI.hg, TI.hk, TI.hs, TI.hd⟩, N.X.no, rfl, e0, _, rfl, rfl, q⟩
    | none =>
      rw [ew] at q
      intro ps' ts' pp pa tp ta
      exact ⟨_, _, rfl, (r.1, ps', ts'), rfl, ((stepB_told e).good hz.1 (hz.2 r e) ew).perm pp tp, _, rfl, q ps' ts' pp pa tp ta⟩
end
end Vf

set_option Elab.async false
set_option linter.all false
set_option maxRecDepth 100000
set_option maxHeartbeats 1000000
namespace Vf
open PySem PySem.Spec PyProof.Rows L2
theorem flies4_mk {K : PySem.W.Frag} {mg : Str → Option Value} {PE CI CT : Addr} {n n' n'' : String} (gP : mg "PlateError" = some (.ref PE)) (rP : CRaw K PE bmP n) (rI : CRaw K CI (bmV PE) n') (rT : CRaw K CT (bmV PE) n'') (h1 : CT ≠ CI) (h2 : CT ≠ PE) (h3 : CI ≠ PE) : Flies4 K mg PE CI CT :=
  ⟨gP, rI.caught rP cont_pe, rT.caught rP cont_pe, kit_me, by rw [rI.kit rT, cont_no h1 h2], kit_me, by rw [rT.kit rI, cont_no (fun z => h1 z.symm) h3]⟩
end Vf

set_option Elab.async false
set_option linter.all false
set_option maxRecDepth 100000
set_option maxHeartbeats 2000000
namespace Vf.Hv
open PySem PySem.Spec PyProof.Rows L2 Vf
section
variable {P : Program} {w : World} {K : PySem.W.Frag} {mg : Str → Option Value} {base : Heap}
/-! ### a pick -/
def spPick (K : PySem.W.Frag) : Sp := fun vs H Q _ => ∃ (p c l : Addr) (xs : List V), vs = [.ref p, .ref l] ∧ DealAt H p c ∧ SqL K (hide p c H) l xs ∧ xs ≠ [] ∧ xs.length < 1000000 ∧
  ∀ (i : Nat) (v : V) H', xs[i]? = some v → DealAt H' p c → Same (hide p c H) (hide p c H') → Q v H'
abbrev nPick : List Str := ["_law_deal_here", "_law_some"]
theorem scPick : FnScope nPick ["_law_deal_here", "_law_some"] (defScope sPick) := ⟨rfl, rfl, rfl, by decide +kernel, rfl, by decide +kernel, by decide +kernel⟩
theorem ok_pick {f fD : Addr} {fd fdD : FuncData} (F : Fun K "_law_pick" "_law_pick" sPick f fd) (FD : Fun K "_law_draw" "_law_draw" sDraw fD fdD) (bD : Binds K fdD ["_law_deal_here", "_law_many"] []) (gD : mg "_law_draw" = some (.ref fD)) (B : Bt mg) :
    FnOk P w K mg base CX0 2 f fd ["_law_deal_here", "_law_some"] (spPick K) := by
  have GD : FnOk P w K mg base CX0 1 fD fdD ["_law_deal_here", "_law_many"] spDraw := ok_draw FD B
  refine F.ok scPick (fun vs H Q E h => ?_) (fun cdv A outer s H vs Q E hr h => ?_)
  · obtain ⟨p, c, l, xs, rfl, _⟩ := h
    rfl
  · obtain ⟨p, c, l, xs, rfl, D, hx, hne, hl, k⟩ := h
    refine ⟨_, pss_one (ps_ret (pe_ix ix_list (pv 1) (pe_call GD hr rfl gD FD.kp bD .nil pass0 (pa_cons (pv 0) (pa_cons (pe_callB call_len_seq (by rfl) B.len PySem.boot_len (pa_cons (pv 1) pa_nil)) pa_nil))) (fun _ _ => rfl))), ?_⟩
    have hpos := List.length_pos_iff.mpr hne
    refine ⟨_, rfl, _, rfl, _, rfl, l, xs, rfl, .inl (hide_le.seq hx), p, c, _, rfl, D, by omega, by omega, fun r H' h0 h1 D' s' => ?_⟩
    obtain ⟨j, rfl⟩ := Int.eq_ofNat_of_zero_le h0
    have hj : j < xs.length := by omega
    have hg : xs[j]? = some xs[j] := List.getElem?_eq_getElem hj
    exact ⟨l, xs, _, _, rfl, rfl, hide_le.seq (s'.seq hx), atI_nat hg, k j _ H' hg D' s'⟩
theorem deal_new {H : Hp} {p c q : Addr} {o : HO} (D : DealAt H p c) (hq : H q = none) : DealAt (upd H q o) p c := by
  obtain ⟨bs, st, hp, hc, r⟩ := D
  exact ⟨bs, st, same_new hq _ _ hp, same_new hq _ _ hc, r⟩
theorem _root_.Vf.DealAt.hp {H : Hp} {p c : Addr} (D : DealAt H p c) : H p ≠ none ∧ H c ≠ none := by
  obtain ⟨bs, st, hp, hc, r⟩ := D
  rw [hp, hc]
  exact ⟨fun z => (by cases z), fun z => (by cases z)⟩
theorem deal_upd {H : Hp} {p c q : Addr} {o : HO} (D : DealAt H p c) (n : q ≠ p ∧ q ≠ c) : DealAt (upd H q o) p c := by
  obtain ⟨bs, st, hp, hc, r⟩ := D
  exact ⟨bs, st, by rw [upd_ne (Ne.symm n.1)]; exact hp, by rw [upd_ne (Ne.symm n.2)]; exact hc, r⟩
theorem _root_.Vf.DealAt.ne {H : Hp} {p c q : Addr} (D : DealAt H p c) (hq : H q = none) : q ≠ p ∧ q ≠ c := by
  obtain ⟨bs, st, hp, hc, r⟩ := D
  exact ⟨(ne_of_none hp hq).symm, (ne_of_none hc hq).symm⟩
end
end Vf.Hv

set_option Elab.async false
set_option linter.all false
set_option maxRecDepth 100000
set_option maxHeartbeats 2000000
/-! the law's shuffling -/
namespace Vf.Hv
open PySem PySem.Spec PyProof.Rows L2 Vf
section
variable {P : Program} {w : World} {K : PySem.W.Frag} {mg : Str → Option Value} {base : Heap}
theorem hs_upd {H H' : Hp} {p c q : Addr} {o : HO} (s : Same (hide p c H) (hide p c H')) (n : H q = none) : Same (hide p c H) (hide p c (upd H' q o)) := fun b u e => by
  obtain ⟨h1, h2, e1⟩ := hide_some e
  rw [hide_ne h1 h2, upd_ne (ne_of_none e1 n)]
  exact (hide_some (s b u e)).2.2
theorem hs_free {H H' : Hp} {p c q : Addr} (s : Same (hide p c H) (hide p c H')) (D : DealAt H' p c) (n : H' q = none) : H q = none := by
  have k := kept_of D.hp.1 D.hp.2 s
  cases e : H q with
  | none => rfl
  | some u => exact absurd n (k q (by rw [e]; intro z; cases z))
theorem erase_snoc {xs ys zs : List V} {j : Nat} {v : V} (h : (ys ++ zs).Perm xs) (e : ys[j]? = some v) : (ys.eraseIdx j ++ (zs ++ [v])).Perm xs := by
  have hj := lt_of_at e
  have ev : ys[j] = v := by
    rw [List.getElem?_eq_getElem hj] at e
    exact Option.some.inj e
  have e1 : ys = ys.take j ++ v :: ys.drop (j + 1) := by
    rw [← ev, ← List.drop_eq_getElem_cons hj, List.take_append_drop]
  have e2 : ys.eraseIdx j = ys.take j ++ ys.drop (j + 1) := List.eraseIdx_eq_take_drop_succ ys j
  refine List.Perm.trans ?_ h
  rw [e2]
  conv => rhs; rw [e1]
  have p1 : (ys.take j ++ ys.drop (j + 1) ++ (zs ++ [v])).Perm (v :: (ys.take j ++ ys.drop (j + 1) ++ zs)) := by
    rw [← List.append_assoc]
    exact List.perm_append_singleton _ _
  have p2 : (ys.take j ++ v :: ys.drop (j + 1) ++ zs).Perm (v :: (ys.take j ++ ys.drop (j + 1) ++ zs)) := by
    rw [List.append_assoc, List.append_assoc, List.cons_append]
    exact List.perm_middle
  exact p1.trans p2.symm
def spMixed (K : PySem.W.Frag) : Sp := fun vs H Q _ => ∃ (p c l : Addr) (b : Bool) (xs : List V), vs = [.ref p, .ref l] ∧ DealAt H p c ∧ SqB b K (hide p c H) l xs ∧ xs.length ≤ 1000 ∧
  ∀ (L : Addr) (ys : List V) H', ys.Perm xs → H L = none → L ≠ p ∧ L ≠ c → H' L = some (.lst ys) → DealAt H' p c → Same (hide p c H) (hide p c H') → Q (.ref L) H'
abbrev nMixed : List Str := ["_law_deal_here", "_law_some", "_law_left", "_law_found"]
theorem scMixed : FnScope nMixed ["_law_deal_here", "_law_some"] (defScope sMixed) := ⟨rfl, rfl, rfl, by decide +kernel, rfl, by decide +kernel, by decide +kernel⟩
theorem ok_mixed {f fD : Addr} {fd fdD : FuncData} (F : Fun K "_law_mixed" "_law_mixed" sMixed f fd) (FD : Fun K "_law_draw" "_law_draw" sDraw fD fdD) (bD : Binds K fdD ["_law_deal_here", "_law_many"] []) (gD : mg "_law_draw" = some (.ref fD)) (B : Bt mg) :
    FnOk P w K mg base CX0 2 f fd ["_law_deal_here", "_law_some"] (spMixed K) := by
  have GD : FnOk P w K mg base CX0 1 fD fdD ["_law_deal_here", "_law_many"] spDraw := ok_draw FD B
  refine F.ok scMixed (fun vs H Q E h => ?_) (fun cdv A outer s H vs Q E hr h => ?_)
  · obtain ⟨p, c, l, b, xs, rfl, _⟩ := h
    rfl
  · obtain ⟨p, c, l, b, xs, rfl, D, hx, hl, k⟩ := h
    refine ⟨_, pss_cons (ps_par (i := 2) (j := 3) (by rfl) scMixed.nd rfl rfl (by decide) rfl rfl (pa_cons (pe_callTy call_list_of (by rfl) B.list (by decide +kernel) (pa_cons (pv 1) pa_nil)) (pa_cons (pe_lst pa_nil) pa_nil)) (by rfl))
      (pss_cons (ps_while PassesOwn.never (pt_cmpR (op_neNil hr.units0) (pv 2) (pe_lst pa_nil) (nomark _))
          (pss_one (ps_expr (pe_bm PySem.F.plainAttrs_list PySem.F.slot_list_append PySem.F.type_list_append mt_append (pv 3)
            (pa_cons (pe_bm PySem.F.plainAttrs_list PySem.F.slot_list_pop PySem.F.type_list_pop mt_popAt (pv 2) (pa_cons (pe_call GD hr rfl gD FD.kp bD .nil pass0 (pa_cons (pv 0) (pa_cons (pe_callB call_len_seq (by rfl) B.len PySem.boot_len (pa_cons (pv 2) pa_nil)) pa_nil))) pa_nil)) pa_nil)))))
      (pss_one (ps_ret (pv 3)))), ?_⟩
    have dlen : xs.length < 1000000 := by omega
    refine ⟨_, rfl, l, xs, rfl, (by
      cases b
      · exact .inr (same_seqT hide_le hx)
      · exact .inl (hide_le.seq hx)), fun A1 hA => ⟨(by show 0 ≤ sizeLine; decide), fun F1 hF => ?_⟩⟩
    have nA := D.ne hA
    have hF' : H F1 = none := (same_new hA).free hF
    have nF := D.ne hF'
    have nAF : A1 ≠ F1 := fun z => by
      rw [← z, upd_same] at hF
      cases hF
    refine ⟨_, _, rfl, ?_⟩
    refine ⟨fun m σ H' => σ = [some (.ref p), some (.ref l), some (.ref A1), some (.ref F1)] ∧ ∃ ys zs : List V, ys.length = m ∧ (ys ++ zs).Perm xs ∧ H' A1 = some (.lst ys) ∧ H' F1 = some (.lst zs) ∧ DealAt H' p c ∧ Same (hide p c H) (hide p c H'),
      ⟨_, rfl, xs, [], rfl, by rw [List.append_nil], by rw [upd_ne nAF, upd_same], upd_same, deal_new (deal_new D hA) hF, hs_upd (hs_upd (Same.refl _) hA) hF'⟩, ?_⟩
    rintro m σ H1 ⟨rfl, ys, zs, hm, pm, eA, eF, D1, s1⟩
    refine ⟨_, rfl, (by show 0 ≤ sizeLine; decide), fun q hq => ?_⟩
    have sq := same_new (o := HO.lst []) hq
    have eA2 := sq _ _ eA
    have eF2 := sq _ _ eF
    have D2 := deal_new (o := .lst []) D1 hq
    have hqH : H q = none := hs_free s1 D1 hq
    have s2 := hs_upd (o := .lst []) s1 hqH
    have hpl := pm.length_eq
    rw [List.length_append] at hpl
    refine ⟨A1, q, ys, rfl, rfl, SqL.of eA2, SqL.of upd_same, _, rfl, ?_⟩
    cases ys with
    | nil =>
      refine iteF ⟨_, rfl, k F1 zs _ pm hF' nF eF2 D2 s2⟩
    | cons y ys =>
      refine iteT ⟨_, fun _ _ y => y, ?_⟩
      refine ⟨_, rfl, .inl ⟨rfl, _, SqL.of eF2⟩, _, rfl, .inl ⟨rfl, _, SqL.of eA2⟩, _, rfl, _, rfl, _, _, rfl, .inl (SqL.of eA2), p, c, _, rfl, D2, (by rw [List.length_cons]; omega), (by rw [List.length_cons] at hpl ⊢; omega), fun r H' r0 r1 D3 s3 => ?_⟩
      have eA3 : H' A1 = some (.lst (y :: ys)) := hide_le _ _ (s3 A1 _ (by rw [hide_ne nA.1 nA.2]; exact eA2))
      have eF3 : H' F1 = some (.lst zs) := hide_le _ _ (s3 F1 _ (by rw [hide_ne nF.1 nF.2]; exact eF2))
      obtain ⟨j, rfl⟩ := Int.eq_ofNat_of_zero_le r0
      have hj : j < (y :: ys).length := by omega
      have hv : (y :: ys)[j]? = some (y :: ys)[j] := List.getElem?_eq_getElem hj
      refine ⟨A1, _, _, j, _, rfl, rfl, eA3, by omega, by omega, (seqIndex_of r0 (by omega)).trans (by simp), hv, ?_⟩
      refine ⟨F1, _, _, rfl, rfl, by rw [upd_ne (Ne.symm nAF)]; exact eF3, small100 (by omega), ?_⟩
      refine ⟨((y :: ys).eraseIdx j).length, by rw [List.length_eraseIdx_of_lt hj, ← hm]; exact Nat.sub_lt (Nat.zero_lt_succ _) (by decide), rfl, _, _, rfl, erase_snoc pm hv, by rw [upd_ne nAF, upd_same], upd_same, deal_upd (deal_upd D3 nA) nF, hs_upd (hs_upd (s2.trans s3) hA) hF'⟩
end
end Vf.Hv

set_option Elab.async false
set_option linter.all false
set_option maxRecDepth 100000
set_option maxHeartbeats 4000000
/-! the law's places and steps, drawn -/
namespace Vf.Hv
open PySem PySem.Spec PyProof.Rows L2 Vf

theorem perm_of_map {α β : Type} (f : α → β) : ∀ (ys : List β) {l : List α}, ys.Perm (l.map f) → ∃ zs : List α, zs.Perm l ∧ zs.map f = ys
  | [], l, h => by
    have e := List.map_eq_nil_iff.mp (List.Perm.eq_nil h.symm)
    subst e
    exact ⟨[], .nil, rfl⟩
  | y :: ys, l, h => by
    obtain ⟨x, hx, rfl⟩ := List.mem_map.mp (h.mem_iff.mp List.mem_cons_self)
    obtain ⟨s, t, rfl⟩ := List.append_of_mem hx
    have q : (f x :: ys).Perm (f x :: (s ++ t).map f) := by
      refine h.trans ?_
      rw [List.map_append, List.map_cons, List.map_append]
      exact List.perm_middle
    obtain ⟨zs, h1, h2⟩ := perm_of_map f ys q.cons_inv
    exact ⟨x :: zs, (List.Perm.cons x h1).trans List.perm_middle.symm, by rw [List.map_cons, h2]⟩
theorem cut_front (xs : List V) (k : Nat) : cutV xs none (some (k : Int)) = xs.take k := by
  unfold cutV HT.sIx
  simp only [List.drop_zero, Nat.sub_zero]
  have e : ¬ ((k : Int) < 0) := by omega
  first
    | (rw [if_neg e]; rw [Int.toNat_natCast, List.take_eq_take_iff] <;> omega)
    | (simp [e]; omega)
    | simp [e]
section
variable {P : Program} {w : World} {K : PySem.W.Frag} {mg : Str → Option Value} {base : Heap}
def spotNames : List Str := ["pan", "board", "bowl", "dish", "a", "zzzzzz"]
def spSpots (K : PySem.W.Frag) : Sp := fun vs H Q _ => ∃ (p c : Addr) (m : Nat), vs = [.ref p, .int m] ∧ DealAt H p c ∧ m ≤ 6 ∧
  ∀ (L : Addr) (zs : List Str) H', zs.Nodup → (∀ z ∈ zs, z ∈ spotNames) → zs.length = m → H L = none → L ≠ p ∧ L ≠ c → H' L = some (.lst (zs.map V.str)) → DealAt H' p c → Same (hide p c H) (hide p c H') → Q (.ref L) H'
abbrev nSpots : List Str := ["_law_deal_here", "_law_many"]
theorem scSpots : FnScope nSpots ["_law_deal_here", "_law_many"] (defScope sSpots) := ⟨rfl, rfl, rfl, by decide +kernel, rfl, by decide +kernel, by decide +kernel⟩
theorem spotNd : spotNames.Nodup := by decide +kernel
theorem ok_spots {f fM : Addr} {fd fdM : FuncData} (F : Fun K "_law_spots" "_law_spots" sSpots f fd) (GM : FnOk P w K mg base CX0 2 fM fdM ["_law_deal_here", "_law_some"] (spMixed K)) (kM : PySem.W.keepIn K (.ref fM) = true) (bM : Binds K fdM ["_law_deal_here", "_law_some"] []) (gM : mg "_law_mixed" = some (.ref fM)) (B : Bt mg) :
    FnOk P w K mg base CX0 3 f fd ["_law_deal_here", "_law_many"] (spSpots K) := by
  refine F.ok scSpots (fun vs H Q E h => ?_) (fun cdv A outer s H vs Q E hr h => ?_)
  · obtain ⟨p, c, m, rfl, _⟩ := h
    rfl
  · obtain ⟨p, c, m, rfl, D, hm, k⟩ := h
    refine ⟨_, pss_one (ps_ret (pe_slice sl_list (pe_call GM hr rfl gM kM bM .nil pass0 (pa_cons (pv 0) (pa_cons (pe_lst (pa_cons pe_str (pa_cons pe_str (pa_cons pe_str (pa_cons pe_str (pa_cons pe_str (pa_cons pe_str pa_nil))))))) pa_nil))) po_none (po_some (pv 1)))), ?_⟩
    refine ⟨_, rfl, (by show 6 ≤ sizeLine; decide), fun l hl => ?_⟩
    have nl := D.ne hl
    refine ⟨p, c, l, true, spotNames.map V.str, rfl, deal_new D hl, (by
      show SqL K (hide p c (upd H l _)) l _
      exact SqL.of (by rw [hide_ne nl.1 nl.2, upd_same]; rfl)), (by show 6 ≤ 1000; decide), fun L ys H1 pm hL nL eL D1 s1 => ?_⟩
    obtain ⟨zs, h1, rfl⟩ := perm_of_map V.str ys pm
    refine ⟨_, rfl, _, rfl, L, _, rfl, SqL.of eL, fun q hq => ?_⟩
    have s2 : Same (hide p c H) (hide p c H1) := (hide_mono (same_new hl)).trans s1
    have hqH := hs_free s2 D1 hq
    have e6 : zs.length = 6 := h1.length_eq
    refine k q (zs.take m) _ ((h1.nodup_iff.mpr spotNd).sublist (List.take_sublist _ _)) (fun z hz => h1.mem_iff.mp (List.mem_of_mem_take hz)) (by rw [List.length_take]; omega) hqH (D.ne hqH) ?_ (deal_new D1 hq) (hs_upd s2 hqH)
    rw [upd_same, cut_front, List.map_take]
end
end Vf.Hv

set_option Elab.async false
set_option linter.all false
set_option maxRecDepth 100000
set_option maxHeartbeats 4000000
namespace Vf.Hv
open PySem PySem.Spec PyProof.Rows L2 Vf

/-! ### the marks of a step, as they are gathered -/
abbrev mkKey (a b : Str) : List Key := [Sum.inr a, Sum.inr b]
structure Marks (ts : List Str) (kvs : List (List Key × V)) (i : Nat) : Prop where
  shp : ∀ e ∈ kvs, ∃ (a b : Str) (c : Int), e = (mkKey a b, V.int c) ∧ a ∈ ts ∧ b ∈ ts ∧ 0 ≤ c ∧ c ≤ 3
  nd : (kvs.map (·.1)).Nodup
  len : kvs.length ≤ i
theorem marks_nil (ts : List Str) : Marks ts [] 0 := ⟨fun e h => (nomatch h), List.nodup_nil, Nat.le_refl _⟩
theorem keys_put {κ : Type} [DecidableEq κ] (kvs : List (κ × V)) (k : κ) (v : V) (h : (kvs.map (·.1)).Nodup) : ((putK kvs k v).map (·.1)).Nodup := by
  cases e : valV kvs k with
  | none => exact nd_putK v h e
  | some u =>
    have q : (kvs.any fun kv => decide (kv.1 = k)) = true := by
      rw [valV_any, e]
      rfl
    unfold putK
    rw [if_pos q, List.map_map]
    have : ((fun x : κ × V => x.1) ∘ fun kv : κ × V => if kv.1 = k then (kv.1, v) else kv) = fun kv => kv.1 := by
      funext kv
      show (if kv.1 = k then (kv.1, v) else kv).1 = kv.1
      split <;> rfl
    rw [this]
    exact h
theorem Marks.put {ts : List Str} {kvs : List (List Key × V)} {i : Nat} (m : Marks ts kvs i) {a b : Str} {c : Int} (ha : a ∈ ts) (hb : b ∈ ts) (h0 : 0 ≤ c) (h3 : c ≤ 3) : Marks ts (putK kvs (mkKey a b) (.int c)) (i + 1) := by
  refine ⟨fun e he => ?_, keys_put _ _ _ m.nd, Nat.le_trans (length_putK _ _ _) (Nat.succ_le_succ m.len)⟩
  unfold putK at he
  split at he
  · obtain ⟨e0, h0', rfl⟩ := List.mem_map.mp he
    split
    · rename_i ek
      exact ⟨a, b, c, by rw [ek], ha, hb, h0, h3⟩
    · exact m.shp e0 h0'
  · rcases List.mem_append.mp he with he | he
    · exact m.shp e he
    · exact ⟨a, b, c, List.mem_singleton.mp he, ha, hb, h0, h3⟩
/-- the rows of a step with these places -/
structure RowsOf (ts : List Str) (tr : List Tri) : Prop where
  len : tr.length ≤ 5
  prs : (tr.map fun t => (t.1, t.2.1)).Nodup
  ends : ∀ t ∈ tr, t.1 ∈ ts ∧ t.2.1 ∈ ts ∧ 0 ≤ t.2.2 ∧ t.2.2 ≤ 3
theorem RowsOf.perm {ts : List Str} {l m : List Tri} (r : RowsOf ts l) (p : m.Perm l) : RowsOf ts m :=
  ⟨by rw [p.length_eq]; exact r.len, (p.map _).nodup_iff.mpr r.prs, fun t h => r.ends t (p.mem_iff.mp h)⟩
theorem rows_of_marks {ts : List Str} {kvs : List (List Key × V)} {ks : List Tri} (m : Marks ts kvs 5) (e : ks.map (fun t => (mkKey t.1 t.2.1, V.int t.2.2)) = kvs) : RowsOf ts ks := by
  have hl : ks.length = kvs.length := by rw [← e, List.length_map]
  refine ⟨by rw [hl]; exact m.len, ?_, fun t ht => ?_⟩
  · have q := m.nd
    rw [← e, List.map_map] at q
    have q' : ((ks.map fun t => (t.1, t.2.1)).map fun p : Str × Str => mkKey p.1 p.2).Nodup := by
      rw [List.map_map]
      exact q
    exact List.Pairwise.of_map _ (fun a b h e => h (by rw [e])) q'
  · obtain ⟨a, b, c, h1, h2, h3, h4, h5⟩ := m.shp (mkKey t.1 t.2.1, V.int t.2.2) (by rw [← e]; exact List.mem_map.mpr ⟨t, ht, rfl⟩)
    injection h1 with k1 k2
    injection k1 with k3 k4
    injection k4 with k5 _
    injection k3 with k3
    injection k5 with k5
    injection k2 with k2
    rw [k3, k5, k2]
    exact ⟨h2, h3, h4, h5⟩
/-- a drawn step's tuple at T: title, places, rows -/
def StageAt (H : Hp) (T : Addr) (title : Str) (ts : List Str) (ks : List (Addr × Tri)) : Prop :=
  ∃ lt lr, H T = some (.tup [.str title, .ref lt, .ref lr]) ∧ H lt = some (.lst (ts.map V.str)) ∧ H lr = some (.lst (ks.map fun p => V.ref p.1)) ∧ ∀ p ∈ ks, H p.1 = some (.tup [.str p.2.1, .str p.2.2.1, .int p.2.2.2])
/-- and its two lists are new since H0 -/
def StageFr (H0 H : Hp) (T : Addr) (title : Str) (ts : List Str) (ks : List (Addr × Tri)) : Prop :=
  ∃ lt lr, (H0 lt = none ∧ H0 lr = none) ∧ (H0 T = none ∧ ∀ p ∈ ks, H0 p.1 = none) ∧ H T = some (.tup [.str title, .ref lt, .ref lr]) ∧ H lt = some (.lst (ts.map V.str)) ∧ H lr = some (.lst (ks.map fun p => V.ref p.1)) ∧ ∀ p ∈ ks, H p.1 = some (.tup [.str p.2.1, .str p.2.2.1, .int p.2.2.2])
theorem StageFr.at_ {H0 H : Hp} {T : Addr} {title : Str} {ts : List Str} {ks : List (Addr × Tri)} (h : StageFr H0 H T title ts ks) : StageAt H T title ts ks := by
  obtain ⟨lt, lr, _, _, h⟩ := h
  exact ⟨lt, lr, h⟩
theorem StageAt.mono {H H' : Hp} {T : Addr} {title : Str} {ts : List Str} {ks : List (Addr × Tri)} (h : StageAt H T title ts ks) (s : Same H H') : StageAt H' T title ts ks := by
  obtain ⟨lt, lr, h1, h2, h3, h4⟩ := h
  exact ⟨lt, lr, s _ _ h1, s _ _ h2, s _ _ h3, fun p hp => s _ _ (h4 p hp)⟩
section
variable {P : Program} {w : World} {K : PySem.W.Frag} {mg : Str → Option Value} {base : Heap}
theorem deal_same {H H' : Hp} {p c : Addr} (D : DealAt H p c) (e : Same H H') : DealAt H' p c := by
  obtain ⟨bs, st, hp, hc, r⟩ := D
  exact ⟨bs, st, e _ _ hp, e _ _ hc, r⟩
theorem hs_lock {H H5 H' : Hp} {p c d : Addr} {o1 o2 : HO} (s : Same (hide p c H) (hide p c H5)) (n : H d = none) (e : Same (upd H5 d o1) H') : Same (hide p c H) (hide p c (upd H' d o2)) := fun b u q => by
  obtain ⟨h1, h2, q1⟩ := hide_some q
  have nd := ne_of_none q1 n
  have q2 := (hide_some (s b u q)).2.2
  rw [hide_ne h1 h2, upd_ne nd]
  exact e b u (by rw [upd_ne nd]; exact q2)
def costs : List V := [.int 0, .int 0, .int 0, .int 1, .int 1, .int 2, .int 3]
theorem cost_at {i : Nat} {v : V} (h : costs[i]? = some v) : ∃ c : Int, v = .int c ∧ 0 ≤ c ∧ c ≤ 3 := by
  have q : costs = [0, 0, 0, 1, 1, 2, 3].map V.int := rfl
  rw [q] at h
  obtain ⟨z, hz, rfl⟩ := int_at h
  have m := List.mem_of_getElem? hz
  refine ⟨z, rfl, ?_⟩
  simp only [List.mem_cons, List.not_mem_nil, or_false] at m
  omega
theorem str_at {zs : List Str} {i : Nat} {x : V} (h : (zs.map V.str)[i]? = some x) : ∃ z, z ∈ zs ∧ x = .str z := by
  rw [List.getElem?_map] at h
  cases e : zs[i]? with
  | none =>
    rw [e] at h
    cases h
  | some z =>
    rw [e] at h
    exact ⟨z, List.mem_of_getElem? e, (Option.some.inj h).symm⟩
def spStage (K : PySem.W.Frag) : Sp := fun vs H Q _ => ∃ (p c l : Addr) (title : Str) (zs : List Str), vs = [.ref p, .str title, .ref l] ∧ DealAt H p c ∧ SqL K (hide p c H) l (zs.map V.str) ∧ zs ≠ [] ∧ zs.length ≤ 6 ∧ zs.Nodup ∧
  ∀ (T : Addr) (ts : List Str) (ks : List (Addr × Tri)) H', StageFr H (hide p c H') T title ts ks → ts ≠ [] → ts.length ≤ 4 → ts.Nodup → (∀ z ∈ ts, z ∈ zs) → Asc ltS ts → RowsOf ts (ks.map (·.2)) → Asc ltT (ks.map (·.2)) → DealAt H' p c → Same (hide p c H) (hide p c H') → Q (.ref T) H'
abbrev nStage : List Str := ["_law_deal_here", "_law_title", "_law_spots_here", "_law_touched", "_law_marks", "_law_turn", "_law_rows", "_law_first", "_law_second"]
theorem scStage : FnScope nStage ["_law_deal_here", "_law_title", "_law_spots_here"] (defScope sStage) := ⟨rfl, rfl, rfl, by decide +kernel, rfl, by decide +kernel, by decide +kernel⟩
theorem ok_stage {f fD fP fM : Addr} {fd fdD fdP fdM : FuncData} (F : Fun K "_law_stage" "_law_stage" sStage f fd) (FD : Fun K "_law_draw" "_law_draw" sDraw fD fdD) (bD : Binds K fdD ["_law_deal_here", "_law_many"] []) (gD : mg "_law_draw" = some (.ref fD))
    (FP : Fun K "_law_pick" "_law_pick" sPick fP fdP) (bP : Binds K fdP ["_law_deal_here", "_law_some"] []) (gP : mg "_law_pick" = some (.ref fP)) (FM : Fun K "_law_mixed" "_law_mixed" sMixed fM fdM) (bM : Binds K fdM ["_law_deal_here", "_law_some"] []) (gM : mg "_law_mixed" = some (.ref fM)) (B : Bt mg) :
    FnOk P w K mg base CX0 3 f fd ["_law_deal_here", "_law_title", "_law_spots_here"] (spStage K) := by
  have GD : FnOk P w K mg base CX0 1 fD fdD ["_law_deal_here", "_law_many"] spDraw := ok_draw FD B
  have GP : FnOk P w K mg base CX0 2 fP fdP ["_law_deal_here", "_law_some"] (spPick K) := ok_pick FP FD bD gD B
  have GM : FnOk P w K mg base CX0 2 fM fdM ["_law_deal_here", "_law_some"] (spMixed K) := ok_mixed FM FD bD gD B
  refine F.ok scStage (fun vs H Q E h => ?_) (fun cdv A outer s H vs Q E hr h => ?_)
  · obtain ⟨p, c, l, title, zs, rfl, _⟩ := h
    rfl
  · obtain ⟨p, c, l, title, zs, rfl, D, hz, zne, z6, znd, k⟩ := h
    have hr1 : Room 1 _ := hr.mono (by omega)
    have hu := hu_of hr
    refine ⟨_, pss_cons (ps_set (i := 3) scStage.nd rfl (.inl rfl) (pe_slice sl_list (pe_call GM hr rfl gM FM.kp bM .nil pass0 (pa_cons (pv 0) (pa_cons (pv 2) pa_nil))) po_none
          (po_some (pe_op op_add pe_int (pe_call GD hr1 rfl gD FD.kp bD .nil pass0 (pa_cons (pv 0) (pa_cons (pe_callB (call_min2 rfl) (by rfl) B.min (by decide +kernel) (pa_cons pe_int (pa_cons (pe_callB call_len_seq (by rfl) B.len PySem.boot_len (pa_cons (pv 2) pa_nil)) pa_nil))) pa_nil)))))))
      (pss_cons (ps_set (i := 4) scStage.nd rfl (.inr rfl) pe_dnewT)
      (pss_cons (ps_for PassesOwn.never rfl (pi_range1 (by rfl) B.range (pa_cons (pe_call GD hr1 rfl gD FD.kp bD .nil pass0 (pa_cons (pv 0) (pa_cons pe_int pa_nil))) pa_nil)) (pg_name (i := 5) scStage.nd rfl (.inl rfl))
          (pss_one (ps_dput hu (pv 4) (pe_tup (pa_cons (pe_call GP hr rfl gP FP.kp bP .nil pass0 (pa_cons (pv 0) (pa_cons (pv 3) pa_nil))) (pa_cons (pe_call GP hr rfl gP FP.kp bP .nil pass0 (pa_cons (pv 0) (pa_cons (pv 3) pa_nil))) pa_nil)))
            (pe_call GP hr rfl gP FP.kp bP .nil pass0 (pa_cons (pv 0) (pa_cons (pe_lst (pa_cons pe_int (pa_cons pe_int (pa_cons pe_int (pa_cons pe_int (pa_cons pe_int (pa_cons pe_int (pa_cons pe_int pa_nil)))))))) pa_nil))) rfl)))
      (pss_cons (ps_set (i := 6) scStage.nd rfl (.inl rfl) (pe_callB cr_sortTri (by rfl) B.sorted (by decide +kernel) (pa_cons (pe_lock (pe_lc (own := [("_law_first", 7), ("_law_second", 8)]) (g := gTup K 2 (gCons (gName 7) (gCons (gName 8) gNil))) rfl scStage.nd (pi_keys (pv 4)) (blkOk_by (N := nStage) (sc := defScope sStage) (by decide +kernel))
          (fun _ _ _ _ _ => pg_tup rfl (pgs_cons (pg_name (i := 7) scStage.nd rfl (.inl rfl) (.inr rfl)) (pgs_cons (pg_name (i := 8) scStage.nd rfl (.inl rfl) (.inr rfl)) pgs_nil))) (fun _ _ _ _ _ => pts_nil)
          (fun _ _ _ _ _ => pe_tup (pa_cons (pv 7) (pa_cons (pv 8) (pa_cons (pe_dget hu (pv 4) (pe_tup (pa_cons (pv 7) (pa_cons (pv 8) pa_nil))) (fun _ _ => rfl)) pa_nil)))))) pa_nil)))
      (pss_one (ps_ret (pe_tup (pa_cons (pv 1) (pa_cons (pe_callB cr_sortTx (by rfl) B.sorted (by decide +kernel) (pa_cons (pv 3) pa_nil)) (pa_cons (pv 6) pa_nil))))))))), ?_⟩
    obtain ⟨dp1, dc1⟩ := D.hp
    -- the places touched
    refine ⟨_, rfl, _, rfl, p, c, l, true, _, rfl, D, hz, (by rw [List.length_map]; omega), fun L ys H1 pm hL nL eL D1 s1 => ?_⟩
    obtain ⟨zs', pz, rfl⟩ := perm_of_map V.str ys pm
    have e6 : zs'.length = zs.length := pz.length_eq
    have hpos := List.length_pos_iff.mpr zne
    refine ⟨_, rfl, _, rfl, l, _, rfl, .inl (hide_le.seq (s1.seq hz)), _, _, rfl, ?_⟩
    rw [List.length_map]
    refine ⟨p, c, _, rfl, D1, (by split <;> omega), (by split <;> omega), fun r H2 r0 r1 D2 s2 => ?_⟩
    obtain ⟨j, rfl⟩ := Int.eq_ofNat_of_zero_le r0
    have hj : j < zs.length ∧ j < 4 := by
      split at r1 <;> omega
    have eL2 : H2 L = some (.lst (zs'.map V.str)) := hide_le _ _ (s2 L _ (by rw [hide_ne nL.1 nL.2]; exact eL))
    have s12 := s1.trans s2
    refine ⟨_, _, rfl, rfl, _, rfl, L, _, rfl, SqL.of eL2, fun q hq => ?_⟩
    have eq1 : cutV (zs'.map V.str) none (some (1 + (j : Int))) = (zs'.take (1 + j)).map V.str := by
      have q : (1 : Int) + (j : Int) = ((1 + j : Nat) : Int) := by omega
      rw [q, cut_front, List.map_take]
    rw [eq1]
    have hqH := hs_free s12 D2 hq
    have nq := D.ne hqH
    obtain ⟨ts, ets⟩ : ∃ ts, ts = zs'.take (1 + j) := ⟨_, rfl⟩
    rw [← ets]
    have tlen : ts.length = 1 + j := by
      rw [ets, List.length_take]
      omega
    have tnd : ts.Nodup := by
      rw [ets]
      exact (pz.nodup_iff.mpr znd).sublist (List.take_sublist _ _)
    have tin : ∀ z ∈ ts, z ∈ zs := fun z h => pz.mem_iff.mp (List.mem_of_mem_take (by rw [← ets]; exact h))
    have tne : ts ≠ [] := fun z => by
      rw [z] at tlen
      simp at tlen
      omega
    obtain ⟨G, ⟨gq, gD, gs⟩, hG⟩ := named (F := fun G => G q = some (.lst (ts.map V.str)) ∧ DealAt G p c ∧ Same (hide p c H) (hide p c G)) (G0 := upd H2 q (.lst (ts.map V.str))) ⟨upd_same, deal_new D2 hq, hs_upd s12 hqH⟩
    rw [hG]
    clear hG eq1
    -- the marks
    refine fun d hd => ?_
    have hdH := hs_free gs gD hd
    have nd := D.ne hdH
    have nqd : q ≠ d := ne_of_none gq hd
    refine ⟨_, rfl, p, c, 6, rfl, deal_new gD hd, by decide, by decide, fun m H3 m0 m1 D3 s3 => ⟨m, rfl, by omega, by omega, ?_⟩⟩
    have gs3 : Same (hide p c H) (hide p c H3) := (hs_upd gs hdH).trans s3
    have q3 : H3 q = some (.lst (ts.map V.str)) := hide_le _ _ (s3 q _ (by rw [hide_ne nq.1 nq.2, upd_ne nqd]; exact gq))
    have d3 : H3 d = some (.dT []) := hide_le _ _ (s3 d _ (by rw [hide_ne nd.1 nd.2, upd_same]))
    refine for_range (lo := 0) (n := m.toNat) (fun i σ H' => ∃ (kvs : List (List Key × V)) (v : Option V), σ = [some (.ref p), some (.str title), some (.ref l), some (.ref q), some (.ref d), v, none, none, none] ∧ Marks ts kvs i ∧ H' d = some (.dT kvs) ∧
        H' q = some (.lst (ts.map V.str)) ∧ DealAt H' p c ∧ Same (hide p c H) (hide p c H')) ⟨[], none, rfl, marks_nil ts, d3, q3, D3, gs3⟩ ?_ ?_
    · rintro i σ H4 hi ⟨kvs, v, rfl, mk, hd4, hq4, D4, s4⟩
      refine ⟨_, rfl, (by show 7 ≤ sizeLine; decide), fun lc hlc => ?_⟩
      have lcH := hs_free s4 D4 hlc
      have nlc := D.ne lcH
      refine ⟨p, c, lc, costs, rfl, deal_new D4 hlc, SqL.of (by rw [hide_ne nlc.1 nlc.2, upd_same]; rfl), (fun z => by cases z), (by show 7 < 1000000; decide), fun i1 v1 H5 hv1 D5 s5 => ?_⟩
      obtain ⟨cst, rfl, c0, c3⟩ := cost_at hv1
      have keep5 : ∀ b o, b ≠ p ∧ b ≠ c → H4 b = some o → H5 b = some o := fun b o n e => hide_le _ _ (s5 b _ (by rw [hide_ne n.1 n.2]; exact same_new hlc _ _ e))
      have tpos := List.length_pos_iff.mpr tne
      have nem : ts.map V.str ≠ [] := fun z => tne (List.map_eq_nil_iff.mp z)
      refine ⟨_, rfl, _, rfl, _, rfl, p, c, q, _, rfl, D5, SqL.of (by rw [hide_ne nq.1 nq.2]; exact keep5 _ _ nq hq4), nem, (by rw [List.length_map]; omega), fun i2 v2 H6 hv2 D6 s6 => ?_⟩
      obtain ⟨a, ha, rfl⟩ := str_at hv2
      have keep6 : ∀ b o, b ≠ p ∧ b ≠ c → H4 b = some o → H6 b = some o := fun b o n e => hide_le _ _ (s6 b _ (by rw [hide_ne n.1 n.2]; exact keep5 b o n e))
      refine ⟨_, rfl, _, rfl, p, c, q, _, rfl, D6, SqL.of (by rw [hide_ne nq.1 nq.2]; exact keep6 _ _ nq hq4), nem, (by rw [List.length_map]; omega), fun i3 v3 H7 hv3 D7 s7 => ?_⟩
      obtain ⟨b, hb, rfl⟩ := str_at hv3
      have keep7 : ∀ b o, b ≠ p ∧ b ≠ c → H4 b = some o → H7 b = some o := fun b o n e => hide_le _ _ (s7 b _ (by rw [hide_ne n.1 n.2]; exact keep6 b o n e))
      have s47 : Same (hide p c H) (hide p c H7) := ((hs_upd s4 lcH).trans s5).trans (s6.trans s7)
      refine ⟨(by show 2 ≤ sizeLine; decide), fun t ht => ?_⟩
      have tH := hs_free s47 D7 ht
      have ntd : t ≠ d := (ne_of_none (keep7 _ _ nd hd4) ht).symm
      have hd8 := same_new (o := .tup [.str a, .str b]) ht _ _ (keep7 _ _ nd hd4)
      refine ⟨d, _, rfl, DPut.t (k := mkKey a b) hd8 upd_same (small100 (by have := mk.len; omega)), ?_⟩
      exact ⟨_, _, rfl, mk.put ha hb c0 c3, upd_same, by rw [upd_ne nqd]; exact same_new ht _ _ (keep7 _ _ nq hq4), deal_upd (deal_new D7 ht) nd, hs_upd (hs_upd s47 tH) hdH⟩
    · rintro σ H4 ⟨kvs, v, rfl, mk, hd4, hq4, D4, s4⟩
      have mk5 : Marks ts kvs 5 := ⟨mk.shp, mk.nd, by have := mk.len; omega⟩
      -- the rows
      refine ⟨d, _, hd4, trivial, fun od => ⟨_, rfl, d, od, rfl, .inr ⟨kvs, upd_same, fun D0 hD0 => ?_⟩⟩⟩
      have nD0d : D0 ≠ d := fun z => by
        rw [z, upd_same] at hD0
        cases hD0
      refine lc_it walk_keysT (fun i H' => ∃ ks : List (Addr × Tri), H' D0 = some (.lst (ks.map fun p => V.ref p.1)) ∧ ks.map (fun p => (mkKey p.2.1 p.2.2.1, V.int p.2.2.2)) = kvs.take i ∧ (∀ p ∈ ks, H' p.1 = some (.tup [.str p.2.1, .str p.2.2.1, .int p.2.2.2])) ∧ (∀ p ∈ ks, H p.1 = none) ∧
          H' d = some (.frz od (.dT kvs)) ∧ Same (upd H4 d (.frz od (.dT kvs))) H') ⟨[], upd_same, by rw [List.take_zero]; rfl, fun p h => (nomatch h), fun p h => (nomatch h), by rw [upd_ne (Ne.symm nD0d), upd_same], same_new hD0⟩ (fun i H' _ h => (by
            obtain ⟨ks, _, _, _, _, h4, _⟩ := h
            exact h4)) ?_ ?_
      · rintro i x H5 H' hi ⟨ks, eD, ek, et, nw, e4, e5⟩ ⟨rfl, kk, v1, q1, hk, rfl, hq1⟩
        obtain ⟨a, b, cst, e1, ha, hb, c0, c3⟩ := mk.shp _ (List.mem_of_getElem? hk)
        obtain ⟨rfl, rfl⟩ : kk = mkKey a b ∧ v1 = V.int cst := ⟨congrArg Prod.fst e1, congrArg Prod.snd e1⟩
        refine ⟨q1, _, rfl, SqT.of hq1, rfl, _, _, rfl, _, _, rfl, rfl, rfl, yes_then ?_⟩
        refine ⟨_, rfl, _, rfl, _, rfl, _, rfl, _, rfl, (by show 2 ≤ sizeLine; decide), fun t ht => ?_⟩
        have g1 := val_nodup mk.nd _ (List.mem_of_getElem? hk)
        refine ⟨d, .int cst, rfl, .inr ⟨kvs, mkKey a b, t, .inr ⟨od, same_new ht _ _ e4⟩, rfl, upd_same, g1.symm⟩, ?_⟩
        refine ⟨(by show 3 ≤ sizeLine; decide), fun T hT => ?_⟩
        have sT : Same H' (upd (upd H' t (.tup [.str a, .str b])) T (.tup [.str a, .str b, .int cst])) := (same_new ht).trans (same_new hT)
        have eD' := sT _ _ eD
        have lk : ks.length = i := by
          have q := congrArg List.length ek
          rw [List.length_map, List.length_take] at q
          omega
        refine ⟨_, eD', small100 (by rw [List.length_map, lk]; have := mk.len; omega), ks ++ [(T, a, b, cst)], by rw [upd_same, List.map_append] <;> rfl, ?_, fun p' hp' => ?_, fun p' hp' => ?_, ?_, ?_⟩
        · rw [List.map_append, ek, take_next hk]
          rfl
        · rcases List.mem_append.mp hp' with hp' | hp'
          · rw [upd_ne (ne_of (et p' hp') eD (by intro z; cases z))]
            exact sT _ _ (et p' hp')
          · rw [List.mem_singleton.mp hp']
            rw [upd_ne (ne_of upd_same eD' (by intro z; cases z)), upd_same] <;> rfl
        · rcases List.mem_append.mp hp' with hp' | hp'
          · exact nw p' hp'
          · rw [List.mem_singleton.mp hp']
            have f1 := (e5.trans (same_new ht)).free hT
            have f2 : T ≠ d := fun z => by rw [z, upd_same] at f1; cases f1
            rw [upd_ne f2] at f1
            exact hs_free s4 D4 f1
        · rw [upd_ne (Ne.symm nD0d)]
          exact sT _ _ e4
        · exact fun b' o' e => by
            have q := sT _ _ (e5 b' o' e)
            by_cases hbD : b' = D0
            · rw [hbD, hD0] at e
              cases e
            · rw [upd_ne hbD]
              exact q
      · rintro H5 ⟨ks, eD, ek, et, nw, e4, e5⟩
        rw [List.take_length] at ek
        refine ⟨e4, D0, ks, rfl, .inl (SqL.of (by rw [upd_ne nD0d]; exact eD)), fun p' hp' => ?_, fun zs2 r2 pz2 as2 hr2 => ?_⟩
        · exact SqT.of (by rw [upd_ne (ne_of (et p' hp') e4 (by intro z; cases z))]; exact et p' hp')
        · have s5 : Same (hide p c H) (hide p c (upd H5 d (.dT kvs))) := hs_lock s4 hdH e5
          have D5 : DealAt (upd H5 d (.dT kvs)) p c := deal_upd (deal_same (deal_upd D4 (o := .frz od (.dT kvs)) nd) e5) nd
          have q5 : H5 q = some (.lst (ts.map V.str)) := e5 _ _ (by rw [upd_ne nqd]; exact hq4)
          have rH := hs_free s5 D5 hr2
          have nr := D.ne rH
          have q6 := same_new (o := .lst (zs2.map fun p => V.ref p.1)) hr2 _ _ (show (upd H5 d (.dT kvs)) q = _ by rw [upd_ne nqd]; exact q5)
          refine ⟨_, rfl, _, rfl, q, ts, rfl, .inl (SqL.of q6), fun us r3 pu au hr3 => ?_⟩
          refine ⟨_, rfl, (by show 3 ≤ sizeLine; decide), fun T hT => ?_⟩
          have s6 := hs_upd (o := .lst (zs2.map fun p => V.ref p.1)) s5 rH
          have D6 := deal_new (o := .lst (zs2.map fun p => V.ref p.1)) D5 hr2
          have r3H := hs_free s6 D6 hr3
          have nr3 := D.ne r3H
          have s7 := hs_upd (o := .lst (us.map V.str)) s6 r3H
          have D7 := deal_new (o := .lst (us.map V.str)) D6 hr3
          have TH := hs_free s7 D7 hT
          have nT := D.ne TH
          have rows : RowsOf ts (ks.map (·.2)) := rows_of_marks mk5 (by rw [List.map_map]; exact ek)
          refine k T us zs2 _ ⟨r3, r2, ⟨r3H, rH⟩, ⟨TH, fun p' hp' => nw p' (pz2.mem_iff.mp hp')⟩, by rw [hide_ne nT.1 nT.2, upd_same], ?_, ?_, fun p' hp' => ?_⟩ (fun z => tne (List.Perm.eq_nil (z ▸ pu).symm)) (by rw [pu.length_eq]; omega) (pu.nodup_iff.mpr tnd) (fun z hz => tin z (pu.mem_iff.mp hz)) au ?_ as2 (deal_new D7 hT) (hs_upd s7 TH)
          · rw [hide_ne nr3.1 nr3.2]
            exact same_new hT _ _ upd_same
          · rw [hide_ne nr.1 nr.2]
            exact same_new hT _ _ (same_new hr3 _ _ upd_same)
          · have e1 := et p' (pz2.mem_iff.mp hp')
            have n1 := ne_of e1 e4 (by intro z; cases z)
            have e2 : (upd H5 d (.dT kvs)) p'.1 = some (.tup [.str p'.2.1, .str p'.2.2.1, .int p'.2.2.2]) := by rw [upd_ne n1]; exact e1
            have n2 : p'.1 ≠ p ∧ p'.1 ≠ c := by
              obtain ⟨bs, st, hp0, hc0, _⟩ := D5
              exact ⟨ne_of e2 hp0 (by intro z; cases z), ne_of e2 hc0 (by intro z; cases z)⟩
            rw [hide_ne n2.1 n2.2]
            exact same_new hT _ _ (same_new hr3 _ _ (same_new hr2 _ _ e2))
          · exact ⟨by rw [List.length_map, pz2.length_eq]; have := rows.len; rwa [List.length_map] at this, ((pz2.map (·.2)).map _).nodup_iff.mpr rows.prs, fun t ht => by
              obtain ⟨g1, g2, g3, g4⟩ := rows.ends t ((pz2.map (·.2)).mem_iff.mp ht)
              exact ⟨pu.mem_iff.mpr g1, pu.mem_iff.mpr g2, g3, g4⟩⟩
end
end Vf.Hv

set_option Elab.async false
set_option linter.all false
set_option maxRecDepth 100000
set_option maxHeartbeats 1000000
/-! k01 to k13's helpers, by data: places, steps, things -/
namespace Vf
open PySem PySem.Spec PyProof.Rows L2
theorem cmpD_all {Fg : DG} {Ft : DT} {Fe : DE} {vs : List Nat} {ρ : Ev} (R : D → Prop) {Q : List D → Prop} : ∀ {l acc : List D}, acc.length + l.length ≤ 1000000 → (∀ x ∈ acc, R x) →
    (∀ d ∈ l, ∀ (T : Option D → Prop), (∀ x, R x → T (some x)) → Fg d (wipeE ρ vs) fun ρ1 => Ft ρ1 (fun b ρ2 => ρ2 = ρ1 ∧ if b = true then Fe ρ1 (fun x ρ3 => ρ3 = ρ1 ∧ T (some x)) noR else T none) noR) → (∀ xs : List D, xs.length = acc.length + l.length → (∀ x ∈ xs, R x) → Q xs) → cmpD Fg Ft Fe vs ρ l acc Q
  | [], acc, _, ha, _, q => q acc rfl ha
  | d :: ds, acc, hz, ha, h, q => by
    rw [List.length_cons] at hz
    have hl : acc.length < sizeLine := Nat.lt_of_le_of_lt (show acc.length ≤ 1000000 by omega) (by decide)
    refine h d List.mem_cons_self (fun o => match o with
      | some x => acc.length < sizeLine ∧ cmpD Fg Ft Fe vs ρ ds (acc ++ [x]) Q
      | none => cmpD Fg Ft Fe vs ρ ds acc Q) fun x hx => ⟨hl, cmpD_all R (by rw [List.length_append]; show acc.length + 1 + ds.length ≤ _; omega) (fun y hy => ?_) (fun d' hd' => h d' (List.mem_cons_of_mem _ hd')) fun xs e hxs => q xs (by rw [e, List.length_append]; show acc.length + 1 + _ = acc.length + (ds.length + 1); omega) hxs⟩
    rcases List.mem_append.mp hy with hy | hy
    · exact ha y hy
    · rw [List.mem_singleton.mp hy]
      exact hx
/-- a heap that knows what is new -/
def newG (H H' G : Hp) (p c : Addr) : Hp := fun a => if H a = none then hide p c H' a else G a
theorem newG_ext {H H' G : Hp} {p c : Addr} (sg : Same G H) (np : G p = none) (nc : G c = none) (s : Same (hide p c H) (hide p c H')) : ExtD p c H G H' (newG H H' G p c) := by
  refine ⟨fun a o n1 n2 e => ?_, fun a o e => ?_, fun a o e => ?_, fun a h => ?_⟩
  · have q := s a o (by rw [hide_ne n1 n2]; exact e)
    exact hide_le a o q
  · show (if H a = none then hide p c H' a else G a) = some o
    rw [if_neg (by rw [sg a o e]; exact fun z => nomatch z)]
    exact e
  · by_cases hn : H a = none
    · have e : (if H a = none then hide p c H' a else G a) = some o := e
      rw [if_pos hn] at e
      exact hide_le a o e
    · have e : (if H a = none then hide p c H' a else G a) = some o := e
      rw [if_neg hn] at e
      have n1 : a ≠ p := fun z => by rw [z, np] at e; cases e
      have n2 : a ≠ c := fun z => by rw [z, nc] at e; cases e
      exact hide_le a o (s a o (by rw [hide_ne n1 n2]; exact sg a o e))
  · by_cases hn : H a = none
    · exact .inr hn
    · left
      have h : (if H a = none then hide p c H' a else G a) ≠ none := h
      rw [if_neg hn] at h
      exact h
theorem newG_at {H H' G : Hp} {p c a : Addr} {o : HO} (n : H a = none) (e : hide p c H' a = some o) : newG H H' G p c a = some o := by
  show (if H a = none then hide p c H' a else G a) = some o
  rw [if_pos n]
  exact e
section
variable {P : Program} {w : World} {K : PySem.W.Frag} {mg : Str → Option Value} {base : Heap} {cs : List Addr}
theorem rp_triA {G : Hp} {ks : List (Addr × Tri)} (h : ∀ p ∈ ks, G p.1 = some (.tup [.str p.2.1, .str p.2.2.1, .int p.2.2.2])) : RpAll K G (ks.map fun p => V.ref p.1) ((ks.map (·.2)).map triD') := by
  induction ks with
  | nil => exact RpAll.nil
  | cons k ks ih =>
    refine RpAll.cons ⟨k.1, _, rfl, SqT.of (h k List.mem_cons_self), ?_⟩ (ih fun p hp => h p (List.mem_cons_of_mem _ hp))
    exact RpAll.cons rfl (RpAll.cons rfl (RpAll.cons rfl RpAll.nil))
/-- a step, drawn -/
def stageM : Md := fun ds P => ∃ (title : Str) (zs : List Str), ds = [.str title, .lst (zs.map .str)] ∧ zs ≠ [] ∧ zs.length ≤ 6 ∧ zs.Nodup ∧
  ∀ (ts : List Str) (tr : List Tri), ts ≠ [] → ts.length ≤ 4 → ts.Nodup → (∀ z ∈ ts, z ∈ zs) → Asc ltS ts → Hv.RowsOf ts tr → Asc ltT tr → P (.tup [.str title, .lst (ts.map .str), .lst (tr.map triD')])
theorem cal_stage {f fD fP fM : Addr} {fd dD dP dM : FuncData} (F : Df K mg "_law_stage" sStage ["_law_deal_here", "_law_title", "_law_spots_here"] f fd) (FD : Df K mg "_law_draw" sDraw ["_law_deal_here", "_law_many"] fD dD) (FP : Df K mg "_law_pick" sPick ["_law_deal_here", "_law_some"] fP dP) (FM : Df K mg "_law_mixed" sMixed ["_law_deal_here", "_law_some"] fM dM) (B : Bt mg) : CalDl P w K mg base "_law_stage" 3 2 stageM := by
  refine ⟨f, fd, _, FnOk.weak (Hv.ok_stage F.F FD.F FD.b FD.g FP.F FP.b FP.g FM.F FM.b FM.g B) (fun vs H Q E h => ?_), F.g, F.F.kp, F.b⟩
  obtain ⟨G, p, c, us, ds, P', rfl, Dl, np, nc, sg, ra, hl, ⟨title, zs, rfl, h1, h2, h3, m⟩, k⟩ := h
  obtain ⟨v, u, rfl, q1, q2⟩ := rpAll2 ra
  cases (show v = .str title from q1)
  obtain ⟨l, xs, rfl, hx, rx⟩ := q2
  have ex : ∀ {zs : List Str} {xs : List V}, RpAll K G xs (zs.map D.str) → xs = zs.map V.str := by
    intro zs
    induction zs with
    | nil => intro xs h; exact h
    | cons z zs ih =>
      intro xs h
      obtain ⟨x, r, rfl, q, t⟩ := h
      cases (show x = .str z from q)
      rw [ih t]
      rfl
  obtain rfl := ex rx
  have hl : SqL K (hide p c H) l (zs.map V.str) := SqL.of (by
    have n1 : l ≠ p := fun z => by rw [z, np] at hx; cases hx
    have n2 : l ≠ c := fun z => by rw [z, nc] at hx; cases hx
    rw [hide_ne n1 n2]
    exact sg _ _ hx)
  refine ⟨p, c, l, title, zs, rfl, Dl, hl, h1, h2, h3, fun T ts ks H' fr t1 t2 t3 t4 t5 t6 t7 D' s' => ?_⟩
  obtain ⟨lt, lr, ⟨n1, n2⟩, ⟨n3, n4⟩, e1, e2, e3, e4⟩ := fr
  refine k _ (.ref T) H' (newG H H' G p c) (m ts (ks.map (·.2)) t1 t2 t3 t4 t5 t6 t7) D' (newG_ext sg np nc s') ?_
  refine ⟨T, _, rfl, SqT.of (newG_at n3 e1), RpAll.cons rfl (RpAll.cons ⟨lt, _, rfl, newG_at n1 e2, rp_strs ts⟩ (RpAll.cons ⟨lr, _, rfl, newG_at n2 e3, rp_triA fun p hp => newG_at (n4 p hp) (e4 p hp)⟩ RpAll.nil))⟩
/-- the places -/
abbrev spotsL : List Str := ["pan", "board", "bowl", "dish", "a", "zzzzzz"]
def spotsM : Md := fun ds P => ∃ n : Nat, ds = [.int (n : Nat)] ∧ ∀ zs : List Str, zs.length = min n 6 → zs.Nodup → (∀ z ∈ zs, z ∈ spotsL) → P (.lst (zs.map .str))
abbrev nSpots : List Str := ["_law_deal_here", "_law_many"]
theorem scSpots : FnScope nSpots ["_law_deal_here", "_law_many"] (defScope sSpots) := ⟨rfl, rfl, rfl, by decide +kernel, rfl, by decide +kernel, by decide +kernel⟩
theorem cal_spots {f : Addr} {fd : FuncData} (F : Df K mg "_law_spots" sSpots ["_law_deal_here", "_law_many"] f fd) (C_law_mixed : CalDl P w K mg base "_law_mixed" 2 1 mixedM) : CalDl P w K mg base "_law_spots" 3 1 spotsM := by
  refine ⟨f, fd, _, okDl F.F scSpots rfl (fun cdv A outer s H E hr => ?_), F.g, F.F.kp, F.b⟩
  refine ⟨_, (pds_one (pds_ret (pd_slice rfl (pd_calDl C_law_mixed (hr.mono (by decide)) (pv 0) (pda_cons (pd_lst (pda_cons pd_str (pda_cons pd_str (pda_cons pd_str (pda_cons pd_str (pda_cons pd_str (pda_cons pd_str pda_nil))))))) pda_nil)) pdo_none (pdo_some (pd_var 1))))), ?_⟩
  rintro p c ds P' _ ⟨n, rfl, k⟩
  refine ⟨p, c, rfl, by decide, rfl, rfl, _, spotsL.map .str, 0, rfl, rfl, (by decide +kernel), by decide, by decide, fun ys py => ?_⟩
  obtain ⟨zs, pz, rfl⟩ := perm_map_inv py
  refine ⟨(n : Nat), rfl, _, rfl, rfl, ?_⟩
  rw [cut_to, ← List.map_take]
  have zl : zs.length = 6 := pz.length_eq
  refine k _ (by rw [List.length_take, zl]) ?_ fun z hz => pz.mem_iff.mp (List.mem_of_mem_take hz)
  exact (pz.nodup_iff.mpr (by decide +kernel)).sublist (List.take_sublist _ _)
end
end Vf

set_option Elab.async false
set_option linter.all false
set_option maxRecDepth 100000
set_option maxHeartbeats 1000000
/-! lines bent -/
namespace Vf
open PySem PySem.Spec PyProof.Rows L2
def wsum (ws : List Str) : Nat := (ws.map fun w => w.length + 1).sum
theorem wsum_app (xs ys : List Str) : wsum (xs ++ ys) = wsum xs + wsum ys := by unfold wsum; rw [List.map_append, List.sum_append]
theorem wsum_take (n : Nat) (xs : List Str) : wsum (xs.take n) ≤ wsum xs := by
  have := wsum_app (xs.take n) (xs.drop n)
  rw [List.take_append_drop] at this
  omega
theorem wsum_drop (n : Nat) (xs : List Str) : wsum (xs.drop n) ≤ wsum xs := by
  have := wsum_app (xs.take n) (xs.drop n)
  rw [List.take_append_drop] at this
  omega
theorem spl_sum {S : List Nat} : ∀ {L : List Nat} {k : Nat} {acc : List Nat}, ((TL.spl S k acc L).map fun p => p.length + 1).sum ≤ acc.length + L.length + 1 ∧ TL.spl S k acc L ≠ []
  | [], k, acc => by
    have e : TL.spl S k acc [] = [acc] := by cases k <;> rfl
    rw [e]
    exact ⟨by simp, by simp⟩
  | x :: L, 0, acc => by
    have e : TL.spl S 0 acc (x :: L) = (if TL.pre S (x :: L) = true then acc :: TL.spl S (S.length - 1) [] L else TL.spl S 0 (acc ++ [x]) L) := rfl
    rw [e]
    split
    · have := (spl_sum (S := S) (L := L) (k := S.length - 1) (acc := [])).1
      refine ⟨?_, by simp⟩
      rw [List.map_cons, List.sum_cons, List.length_cons]
      simp only [List.length_nil] at this
      omega
    · have := spl_sum (S := S) (L := L) (k := 0) (acc := acc ++ [x])
      refine ⟨?_, this.2⟩
      have := this.1
      rw [List.length_append] at this
      simp only [List.length_cons, List.length_nil] at this ⊢
      omega
  | x :: L, k + 1, acc => by
    have := spl_sum (S := S) (L := L) (k := k) (acc := acc)
    refine ⟨?_, this.2⟩
    have := this.1
    show ((TL.spl S k acc L).map fun p => p.length + 1).sum ≤ _
    rw [List.length_cons]
    omega
theorem split_sum {x y : Str} (hy : TL.tl y ≠ []) (hk : y.cps.all (· < 256) = true) : wsum (Txt.split x y) ≤ x.length + 1 ∧ Txt.split x y ≠ [] := by
  have e := TL.split_spl x y hy (TL.kind_ok hk)
  obtain ⟨h1, h2⟩ := spl_sum (S := TL.tl y) (L := TL.tl x) (k := 0) (acc := [])
  rw [← e] at h1 h2
  refine ⟨?_, fun z => h2 (by rw [z]; rfl)⟩
  rw [List.map_map] at h1
  unfold wsum
  have e2 : (Txt.split x y).map (fun w => w.length + 1) = (Txt.split x y).map ((fun p : List Nat => p.length + 1) ∘ TL.tl) := List.map_congr_left fun w _ => by
    show w.length + 1 = (TL.tl w).length + 1
    rw [len_tl]
  rw [e2, len_tl x]
  simp only [List.length_nil, Nat.zero_add] at h1
  exact h1
theorem join_sum : ∀ (xs : List Str), (Txt.join " " xs).length ≤ wsum xs
  | [] => by
    rw [len_tl, tl_Join]
    exact Nat.zero_le _
  | [x] => by
    rw [len_tl, tl_Join]
    show (TL.tl x).length ≤ _
    rw [← len_tl]
    unfold wsum
    simp
  | x :: y :: r => by
    have ih := join_sum (y :: r)
    rw [len_tl, tl_Join] at ih
    rw [len_tl, tl_Join]
    show (TL.tl x ++ (TL.tl (" " : Str) ++ TL.joinL (TL.tl (" " : Str)) ((y :: r).map TL.tl))).length ≤ _
    have l1 : (TL.tl (" " : Str)).length = 1 := by decide +kernel
    rw [List.length_append, List.length_append, l1, ← len_tl]
    have : wsum (x :: y :: r) = x.length + 1 + wsum (y :: r) := rfl
    omega
theorem sum_room (xs : List Str) (h : wsum xs ≤ 16000000) : (xs.map (·.length)).sum + xs.length * (" " : Str).length ≤ 16777216 := by
  have l1 : (" " : Str).length = 1 := by decide +kernel
  rw [l1, Nat.mul_one]
  have e : ∀ xs : List Str, (xs.map (·.length)).sum + xs.length = wsum xs := fun xs => by
    induction xs with
    | nil => rfl
    | cons x xs ih =>
      rw [List.map_cons, List.sum_cons, List.length_cons]
      have : wsum (x :: xs) = x.length + 1 + wsum xs := rfl
      omega
  rw [e]
  omega
abbrev someL : List Str := ["at", "go", "pan", "a", "", "0", "01", "Pan", "toolong", "-1", "0,", "1,", "trace", "+1", "1_0"]
abbrev signL : List Str := ["", " ", ",", "\n"]
def lowB (z : Str) : Bool := z.cps.toList.all fun c => decide (c ≤ 122)
theorem lowB_ok {z : Str} (h : lowB z = true) : lowS 122 z := fun c hc => of_decide_eq_true (List.all_eq_true.mp h c hc)
theorem some_ok : ∀ y ∈ someL, lowS 122 y ∧ y.length ≤ 7 := fun y hy => by
  have : (someL.all fun y => lowB y && decide (y.length ≤ 7)) = true := by decide +kernel
  have := List.all_eq_true.mp this y hy
  rw [Bool.and_eq_true, decide_eq_true_eq] at this
  exact ⟨lowB_ok this.1, this.2⟩
theorem sign_ok : ∀ y ∈ signL, lowS 122 y ∧ y.length ≤ 7 := fun y hy => by
  have : (signL.all fun y => lowB y && decide (y.length ≤ 7)) = true := by decide +kernel
  have := List.all_eq_true.mp this y hy
  rw [Bool.and_eq_true, decide_eq_true_eq] at this
  exact ⟨lowB_ok this.1, this.2⟩
theorem cutL_len {α : Type} (l : List α) (lo hi : Option Int) : (cutL l lo hi).length ≤ l.length := by
  unfold cutL
  rw [List.length_take, List.length_drop]
  omega
theorem cutT (ws : List Str) (n : Nat) : cutL (ws.map D.str) none (some ((n : Nat) : Int)) = (ws.take n).map D.str := by rw [cut_to, ← List.map_take]
theorem cutT1 (ws : List Str) (n : Nat) : cutL (ws.map D.str) none (some (((n : Nat) : Int) + 1)) = (ws.take (n + 1)).map D.str := cutT ws (n + 1)
theorem cutF (ws : List Str) (n : Nat) : cutL (ws.map D.str) (some ((n : Nat) : Int)) none = (ws.drop n).map D.str := by rw [cut_from, ← List.map_drop]
theorem cutF1 (ws : List Str) (n : Nat) : cutL (ws.map D.str) (some (((n : Nat) : Int) + 1)) none = (ws.drop (n + 1)).map D.str := cutF ws (n + 1)
theorem cutL_small {ws : List Str} (lo hi : Option Int) (h : ws.length ≤ 1100) : (cutL (ws.map D.str) lo hi).length ≤ 1100 := by
  have := cutL_len (ws.map D.str) lo hi
  rw [List.length_map] at this
  omega
section
variable {P : Program} {w : World} {K : PySem.W.Frag} {mg : Str → Option Value} {base : Heap} {cs : List Addr}
def bentM : Md := fun ds P => ∃ z, ds = [.str z] ∧ lowS 122 z ∧ z ≠ "" ∧ z.length ≤ 1000 ∧ ∀ z', lowS 122 z' → z'.length ≤ 2 * z.length + 10 → P (.str z')
abbrev nBent : List Str := ["_law_deal_here", "_law_line", "_law_words", "_law_form", "_law_spot", "_law_some", "_law_where"]
theorem scBent : FnScope nBent ["_law_deal_here", "_law_line"] (defScope sBent) := ⟨rfl, rfl, rfl, by decide +kernel, rfl, by decide +kernel, by decide +kernel⟩
theorem cal_bent {f : Addr} {fd : FuncData} (F : Df K mg "_law_bent" sBent ["_law_deal_here", "_law_line"] f fd) (B : Bt mg) (C_law_draw : CalDl P w K mg base "_law_draw" 1 1 drawM) (C_law_pick : CalDl P w K mg base "_law_pick" 2 1 pickM) : CalDl P w K mg base "_law_bent" 3 1 bentM := by
  refine ⟨f, fd, _, okDl F.F scBent rfl (fun cdv A outer s H E hr => ?_), F.g, F.F.kp, F.b⟩
  refine ⟨_, (pds_cons (pds_par (i := 2) (j := 3) rfl scBent.nd (pda_cons (pd_split (pd_var 1) pd_str) (pda_cons (pd_calDl C_law_draw (hr.mono (by decide)) (pv 0) (pda_cons pd_int pda_nil)) pda_nil)))
      (pds_cons (pds_set (i := 4) scBent.nd (pd_calDl C_law_draw (hr.mono (by decide)) (pv 0) (pda_cons (pd_blt (do_len rfl) B.len (pda_cons (pd_var 2) pda_nil)) pda_nil)))
      (pds_cons (pds_set (i := 5) scBent.nd (pd_lst (pda_cons pd_str (pda_cons pd_str (pda_cons pd_str (pda_cons pd_str (pda_cons pd_str (pda_cons pd_str (pda_cons pd_str (pda_cons pd_str pda_nil))))))))))
      (pds_cons (pds_set (i := 5) scBent.nd (pd_op (do_add rfl) (pd_var 5) (pd_lst (pda_cons pd_str (pda_cons pd_str (pda_cons pd_str (pda_cons pd_str (pda_cons pd_str (pda_cons pd_str (pda_cons pd_str pda_nil))))))))))
      (pds_cons (pds_if (pdt_cmp (do_eq rfl hr.units) (pd_var 3) pd_int)
      (pds_one (pds_ret (pd_join rfl pd_str (pd_op (do_add rfl) (pd_slice rfl (pd_var 2) pdo_none (pdo_some (pd_var 4))) (pd_slice rfl (pd_var 2) (pdo_some (pd_op (do_add rfl) (pd_var 4) pd_int)) pdo_none))))) pds_nil)
      (pds_cons (pds_if (pdt_cmp (do_eq rfl hr.units) (pd_var 3) pd_int)
      (pds_one (pds_ret (pd_join rfl pd_str (pd_op (do_add rfl) (pd_op (do_add rfl) (pd_slice rfl (pd_var 2) pdo_none (pdo_some (pd_var 4))) (pd_lst (pda_cons (pd_calDl C_law_pick (hr.mono (by decide)) (pv 0) (pda_cons (pd_var 5) pda_nil)) pda_nil))) (pd_slice rfl (pd_var 2) (pdo_some (pd_var 4)) pdo_none))))) pds_nil)
      (pds_cons (pds_if (pdt_cmp (do_eq rfl hr.units) (pd_var 3) pd_int)
      (pds_one (pds_ret (pd_join rfl pd_str (pd_op (do_add rfl) (pd_op (do_add rfl) (pd_slice rfl (pd_var 2) pdo_none (pdo_some (pd_var 4))) (pd_lst (pda_cons (pd_calDl C_law_pick (hr.mono (by decide)) (pv 0) (pda_cons (pd_var 5) pda_nil)) pda_nil))) (pd_slice rfl (pd_var 2) (pdo_some (pd_op (do_add rfl) (pd_var 4) pd_int)) pdo_none))))) pds_nil)
      (pds_cons (pds_if (pdt_cmp (do_eq rfl hr.units) (pd_var 3) pd_int)
      (pds_one (pds_ret (pd_join rfl pd_str (pd_op (do_add rfl) (pd_slice rfl (pd_var 2) pdo_none (pdo_some (pd_op (do_add rfl) (pd_var 4) pd_int))) (pd_slice rfl (pd_var 2) (pdo_some (pd_var 4)) pdo_none))))) pds_nil)
      (pds_cons (pds_set (i := 6) scBent.nd (pd_calDl C_law_draw (hr.mono (by decide)) (pv 0) (pda_cons (pd_blt (do_len rfl) B.len (pda_cons (pd_var 1) pda_nil)) pda_nil)))
      (pds_one (pds_ret (pd_op (do_add rfl) (pd_op (do_add rfl) (pd_slice rfl (pd_var 1) pdo_none (pdo_some (pd_var 6))) (pd_calDl C_law_pick (hr.mono (by decide)) (pv 0) (pda_cons (pd_lst (pda_cons pd_str (pda_cons pd_str (pda_cons pd_str (pda_cons pd_str pda_nil))))) pda_nil))) (pd_slice rfl (pd_var 1) (pdo_some (pd_op (do_add rfl) (pd_var 6) (pd_ite (pdt_cmp (do_eq rfl hr.units) (pd_var 3) pd_int) pd_int pd_int))) pdo_none))))))))))))), ?_⟩
  rintro p c ds P' _ ⟨z, rfl, lz, z0, zl, k⟩
  obtain ⟨ws1, ws2⟩ := split_sum (x := z) (y := " ") (by decide +kernel) (by decide +kernel)
  have lw : ∀ a ∈ Txt.split z " ", lowS 122 a := lz.split (by decide +kernel) (by decide +kernel)
  refine ⟨⟨_, rfl⟩, z, " ", rfl, rfl, by decide +kernel, big_le (by omega), ?_⟩
  generalize Txt.split z " " = ws at ws1 ws2 lw ⊢
  have wl : ws.length ≤ wsum ws := by
    have : ∀ xs : List Str, xs.length ≤ wsum xs := fun xs => by
      induction xs with
      | nil => exact Nat.zero_le _
      | cons x xs ih =>
        have : wsum (x :: xs) = x.length + 1 + wsum xs := rfl
        rw [List.length_cons]
        omega
    exact this ws
  have w1 : 1 ≤ ws.length := List.length_pos_iff.mpr ws2
  refine ⟨p, c, rfl, rfl, rfl, 6, rfl, by decide, by decide, fun r r0 r6 => ⟨_, _, rfl, ?_⟩⟩
  refine ⟨p, c, rfl, ws.length, ?_, rfl, rfl, _, rfl, ?_, ?_, fun sp s0 s1 => ?_⟩
  · show some (ws.map D.str).length = _
    rw [List.length_map]
  · show (1 : Int) ≤ (ws.length : Nat)
    omega
  · show ((ws.length : Nat) : Int) < 1000000
    omega
  obtain ⟨n, rfl⟩ := Int.eq_ofNat_of_zero_le s0
  refine ⟨Nat.le_of_ble_eq_true rfl, Nat.le_of_ble_eq_true rfl, Nat.le_of_ble_eq_true rfl, ?_⟩
  dsimp only
  have wl1 : ws.length ≤ 1100 := by omega
  have sp1 : lowS 122 (" " : Str) := lowB_ok (by decide +kernel)
  have fin : ∀ us : List Str, (∀ u ∈ us, lowS 122 u) → wsum us ≤ 2 * wsum ws + 8 → P' (.str (Txt.join " " us)) := fun us h1 h2 => k _ (lowS.join sp1 h1) (by have := join_sum us; omega)
  have lt : ∀ m, ∀ u ∈ ws.take m, lowS 122 u := fun m u hu => lw u (List.mem_of_mem_take hu)
  have ld : ∀ m, ∀ u ∈ ws.drop m, lowS 122 u := fun m u hu => lw u (List.mem_of_mem_drop hu)
  have mem3 : ∀ {i j : Nat} {y : Str}, lowS 122 y → ∀ u ∈ (ws.take i ++ [y]) ++ ws.drop j, lowS 122 u := fun hy u hu => by
    rcases List.mem_append.mp hu with hu | hu
    · rcases List.mem_append.mp hu with hu | hu
      · exact lt _ u hu
      · rw [List.mem_singleton.mp hu]
        exact hy
    · exact ld _ u hu
  have mem2 : ∀ {i j : Nat}, ∀ u ∈ ws.take i ++ ws.drop j, lowS 122 u := fun u hu => by
    rcases List.mem_append.mp hu with hu | hu
    · exact lt _ u hu
    · exact ld _ u hu
  have sum2 : ∀ {i j : Nat}, wsum (ws.take i ++ ws.drop j) ≤ 2 * wsum ws + 8 := fun {i j} => by
    rw [wsum_app]
    have := wsum_take i ws
    have := wsum_drop j ws
    omega
  have sum3 : ∀ {i j : Nat} {y : Str}, y.length ≤ 7 → wsum ((ws.take i ++ [y]) ++ ws.drop j) ≤ 2 * wsum ws + 8 := fun {i j y} hy => by
    rw [wsum_app, wsum_app]
    have := wsum_take i ws
    have := wsum_drop j ws
    have : wsum [y] = y.length + 1 := rfl
    omega
  have room : ∀ us : List Str, wsum us ≤ 2 * wsum ws + 8 → (us.map (·.length)).sum + us.length * (" " : Str).length ≤ 16777216 := fun us h => sum_room us (by omega)
  refine ⟨.inl rfl, _, rfl, ?_⟩
  cases dEq (.int r) (.int 0) with
  | true =>
    refine iteT ⟨⟨_, rfl⟩, _, rfl, _, rfl, _, rfl, _, rfl, ?_, _, _, ws.take n ++ ws.drop (n + 1), rfl, rfl, ?_, room _ sum2, rfl, fin _ mem2 sum2⟩
    · have := cutL_small none (some ((n : Nat) : Int)) wl1
      have := cutL_small (some (((n : Nat) : Int) + 1)) none wl1
      exact big_le (by omega)
    · rw [cutT, cutF1, ← List.map_append, strL_map]
  | false =>
  refine iteF ⟨.inl rfl, _, rfl, ?_⟩
  cases dEq (.int r) (.int 1) with
  | true =>
    refine iteT ⟨⟨_, rfl⟩, _, rfl, _, rfl, p, c, rfl, rfl, rfl, _, someL.map .str, rfl, rfl, by simp, by decide, fun x hx => ?_⟩
    obtain ⟨y, hy, rfl⟩ := List.mem_map.mp hx
    obtain ⟨y1, y2⟩ := some_ok y hy
    refine ⟨Nat.le_of_ble_eq_true rfl, ?_, _, rfl, _, rfl, ?_, _, _, (ws.take n ++ [y]) ++ ws.drop n, rfl, rfl, ?_, room _ (sum3 y2), rfl, fin _ (mem3 y1) (sum3 y2)⟩
    · have := cutL_small none (some ((n : Nat) : Int)) wl1
      exact big_le (by show _ + 1 ≤ _; omega)
    · have := cutL_small none (some ((n : Nat) : Int)) wl1
      have := cutL_small (some ((n : Nat) : Int)) none wl1
      exact big_le (by rw [List.length_append]; show _ + 1 + _ ≤ _; omega)
    · rw [cutT, cutF]
      have := strL_map ((ws.take n ++ [y]) ++ ws.drop n)
      rw [List.map_append, List.map_append] at this
      exact this
  | false =>
  refine iteF ⟨.inl rfl, _, rfl, ?_⟩
  cases dEq (.int r) (.int 2) with
  | true =>
    refine iteT ⟨⟨_, rfl⟩, _, rfl, _, rfl, p, c, rfl, rfl, rfl, _, someL.map .str, rfl, rfl, by simp, by decide, fun x hx => ?_⟩
    obtain ⟨y, hy, rfl⟩ := List.mem_map.mp hx
    obtain ⟨y1, y2⟩ := some_ok y hy
    refine ⟨Nat.le_of_ble_eq_true rfl, ?_, _, rfl, _, rfl, ?_, _, _, (ws.take n ++ [y]) ++ ws.drop (n + 1), rfl, rfl, ?_, room _ (sum3 y2), rfl, fin _ (mem3 y1) (sum3 y2)⟩
    · have := cutL_small none (some ((n : Nat) : Int)) wl1
      exact big_le (by show _ + 1 ≤ _; omega)
    · have := cutL_small none (some ((n : Nat) : Int)) wl1
      have := cutL_small (some (((n : Nat) : Int) + 1)) none wl1
      exact big_le (by rw [List.length_append]; show _ + 1 + _ ≤ _; omega)
    · rw [cutT, cutF1]
      have := strL_map ((ws.take n ++ [y]) ++ ws.drop (n + 1))
      rw [List.map_append, List.map_append] at this
      exact this
  | false =>
  refine iteF ⟨.inl rfl, _, rfl, ?_⟩
  cases dEq (.int r) (.int 3) with
  | true =>
    refine iteT ⟨⟨_, rfl⟩, _, rfl, _, rfl, _, rfl, _, rfl, ?_, _, _, ws.take (n + 1) ++ ws.drop n, rfl, rfl, ?_, room _ sum2, rfl, fin _ mem2 sum2⟩
    · have := cutL_small none (some (((n : Nat) : Int) + 1)) wl1
      have := cutL_small (some ((n : Nat) : Int)) none wl1
      exact big_le (by omega)
    · rw [cutT1, cutF, ← List.map_append, strL_map]
  | false =>
  have zp : 1 ≤ z.length := by
    rcases Nat.lt_or_ge 0 z.length with h | h
    · exact h
    · exfalso
      refine z0 (TL.ext_tl ?_)
      rw [len_tl] at h
      have : TL.tl z = [] := List.length_eq_zero_iff.mp (by omega)
      rw [this]
      rfl
  refine iteF ⟨p, c, rfl, z.length, len_str (big_le (by omega)), rfl, rfl, _, rfl, ?_, ?_, fun wh h0 h1 => ?_⟩
  · omega
  · omega
  refine ⟨_, rfl, .str (cutS z none (some wh)), if_pos (big_le (by omega)), p, c, rfl, Nat.le_of_ble_eq_true rfl, rfl, rfl, _, signL.map .str, rfl, rfl, by simp, by decide, fun x hx => ?_⟩
  obtain ⟨y, hy, rfl⟩ := List.mem_map.mp hx
  obtain ⟨y1, y2⟩ := sign_ok y hy
  have q1 := cut_len z none (some wh)
  refine ⟨big_le (by omega), .inl rfl, _, rfl, ?_⟩
  have last : ∀ lo : Int, P' (.str ((cutS z none (some wh) ++ y) ++ cutS z (some lo) none)) := fun lo => k _ (((lz.cut _ _).app y1).app (lz.cut _ _)) (by
    have q2 := cut_len z (some lo) none
    rw [app_len', app_len']
    omega)
  have q3 : ∀ lo : Int, ((cutS z none (some wh) ++ y).length + (cutS z (some lo) none).length ≤ sizeLine) := fun lo => by
    have q2 := cut_len z (some lo) none
    rw [app_len']
    exact big_le (by omega)
  cases dEq (.int r) (.int 4) with
  | true => exact iteT ⟨_, rfl, .str (cutS z (some (wh + 1)) none), if_pos (big_le (by omega)), q3 _, rfl, last _⟩
  | false => exact iteF ⟨_, rfl, .str (cutS z (some (wh + 0)) none), if_pos (big_le (by omega)), q3 _, rfl, last _⟩
end
end Vf

set_option Elab.async false
set_option linter.all false
set_option maxRecDepth 100000
set_option maxHeartbeats 1000000
/-! a good row is made -/
namespace Vf
open PySem PySem.Spec PyProof.Rows L2
theorem GoodRow.right {t : Str} {ps : List Str} {ts : List Tri} (g : GoodRow t ps ts) {pl al : D} (e1 : seqB pl = some (ps.map D.str)) (e2 : seqB al = some (ts.map triD')) : wrongW (.str t) pl al = none := by
  unfold wrongW
  have es : strsOf pl = ps := by
    unfold strsOf
    rw [e1]
    show (strL (ps.map D.str)).getD [] = ps
    rw [strL_map]
    rfl
  rw [if_pos (show isNameD (.str t) = true from g.nm), if_pos (g.places e1).2.2, es, if_pos (g.arrows e2).2.2]
end Vf

set_option Elab.async false
set_option linter.all false
set_option maxRecDepth 100000
set_option maxHeartbeats 1000000
/-! lines: what is told of them twice is the same; how many arrows they have -/
namespace Vf
open PySem PySem.Spec PyProof.Rows L2
theorem toldP_same {z : Str} {Q : D → D → Prop} (hi : Q (.int 0) (.int 0)) (hs : ∀ s, Q (.str s) (.str s)) : toldP z (fun x => toldP z (Q x)) := by
  unfold toldP
  cases stepB z with
  | none => exact hi
  | some r =>
    dsimp only
    cases wrongR r with
    | some w => exact hs w
    | none =>
      intro ps ts p1 a1 p2 a2 ps' ts' p3 a3 p4 a4
      have e1 : ps = ps' := asc_uniq lin_str a1 a3 (p1.trans p3.symm)
      have e2 : ts = ts' := asc_uniq lin_tri a2 a4 (p2.trans p4.symm)
      subst e1 e2
      exact hs _
theorem toldP_mono {z : Str} {P Q : D → Prop} (h : ∀ x, P x → Q x) (p : toldP z P) : toldP z Q := by
  revert p
  unfold toldP
  cases stepB z with
  | none => exact h _
  | some r =>
    dsimp only
    cases wrongR r with
    | some w => exact h _
    | none => exact fun p ps us p1 a1 p2 a2 => h _ (p ps us p1 a1 p2 a2)
theorem spl_cnt {c : Nat} : ∀ {L : List Nat} {k : Nat} {acc : List Nat}, ((TL.spl [c, 32] k acc L).length : Int) ≤ 1 + PyProof.Rows.cnt c L
  | [], k, acc => by
    have e : TL.spl [c, 32] k acc [] = [acc] := by cases k <;> rfl
    rw [e, PyProof.Rows.cnt_nil]
    exact Int.le_refl _
  | x :: L, 0, acc => by
    have e : TL.spl [c, 32] 0 acc (x :: L) = (if TL.pre [c, 32] (x :: L) = true then acc :: TL.spl [c, 32] 1 [] L else TL.spl [c, 32] 0 (acc ++ [x]) L) := rfl
    rw [e, PyProof.Rows.cnt_cons]
    split
    · rename_i h
      have hx : x = c := by
        unfold TL.pre at h
        have h := beq_iff_eq.mp h
        cases L with
        | nil => cases h
        | cons y L =>
          have h : [x, y] = [c, 32] := h
          injection h
      have := spl_cnt (c := c) (L := L) (k := 1) (acc := [])
      rw [if_pos hx, List.length_cons]
      omega
    · have := spl_cnt (c := c) (L := L) (k := 0) (acc := acc ++ [x])
      split <;> omega
  | x :: L, k + 1, acc => by
    have := spl_cnt (c := c) (L := L) (k := k) (acc := acc)
    have e : TL.spl [c, 32] (k + 1) acc (x :: L) = TL.spl [c, 32] k acc L := rfl
    rw [e, PyProof.Rows.cnt_cons]
    split <;> omega
theorem cnt_nonneg {c : Nat} : ∀ L : List Nat, 0 ≤ PyProof.Rows.cnt c L
  | [] => Int.le_refl _
  | x :: L => by
    rw [PyProof.Rows.cnt_cons]
    have := cnt_nonneg (c := c) L
    split <;> omega
theorem cnt_drop {c : Nat} : ∀ (i : Nat) (L : List Nat), PyProof.Rows.cnt c (L.drop i) ≤ PyProof.Rows.cnt c L
  | 0, L => Int.le_refl _
  | i + 1, [] => Int.le_refl _
  | i + 1, x :: L => by
    rw [List.drop_succ_cons, PyProof.Rows.cnt_cons]
    have := cnt_drop (c := c) i L
    split <;> omega
theorem cnt_take {c : Nat} : ∀ (i : Nat) (L : List Nat), PyProof.Rows.cnt c (L.take i) ≤ PyProof.Rows.cnt c L
  | 0, L => by rw [List.take_zero]; exact cnt_nonneg L
  | i + 1, [] => Int.le_refl _
  | i + 1, x :: L => by
    rw [List.take_succ_cons, PyProof.Rows.cnt_cons, PyProof.Rows.cnt_cons]
    have := cnt_take (c := c) i L
    split <;> omega
theorem allSome_len {α : Type} : ∀ {l : List (Option α)} {r : List α}, allSome l = some r → r.length = l.length
  | [], r, h => by cases h; rfl
  | none :: _, r, h => by cases h
  | some a :: l, r, h => by
    have h : (allSome l).map (fun r => a :: r) = some r := h
    cases e : allSome l with
    | none => rw [e] at h; cases h
    | some r' =>
      rw [e] at h
      cases h
      rw [List.length_cons, List.length_cons, allSome_len e]
/-- no more arrows than commas and one -/
theorem arrows_few {z : Str} {r : Row} (h : stepB z = some r) (hc : Txt.count z "," ≤ 5) : r.2.2.length ≤ 60 := by
  have ec : Txt.count z "," = PyProof.Rows.cnt 44 z.cps.toList := PyProof.Rows.count_is z 44
  rw [ec] at hc
  have tail : PyProof.Rows.cnt 44 (TL.tl (Txt.partition z " go ").2.2) ≤ 5 := by
    rcases part_cases z " go " with ⟨_, e⟩ | ⟨i, q, _, e, _⟩
    · rw [e]
      show PyProof.Rows.cnt 44 [] ≤ 5
      rw [PyProof.Rows.cnt_nil]
      decide
    · rw [e]
      show PyProof.Rows.cnt 44 (TL.tl (PySem.Builtin.Str.strSub z _ _)) ≤ 5
      rw [tl_sub]
      have h1 := cnt_take (c := 44) (z.length - (i + (" go " : Str).length)) ((TL.tl z).drop (i + (" go " : Str).length))
      have h2 := cnt_drop (c := 44) (i + (" go " : Str).length) (TL.tl z)
      exact Int.le_trans h1 (Int.le_trans h2 hc)
  have e := TL.split_spl (Txt.partition z " go ").2.2 ", " (by decide +kernel) (TL.kind_ok (by decide +kernel))
  have es : TL.tl (", " : Str) = [44, 32] := by decide +kernel
  rw [es] at e
  have el := congrArg List.length e
  rw [List.length_map] at el
  have := spl_cnt (c := 44) (L := TL.tl (Txt.partition z " go ").2.2) (k := 0) (acc := [])
  rw [← el] at this
  unfold stepB at h
  split at h
  · split at h
    · cases ea : arrsB (Txt.partition z " go ") with
      | none => rw [ea] at h; cases h
      | some ar =>
        rw [ea] at h
        cases h
        unfold arrsB at ea
        split at ea
        · cases ea
          exact Nat.zero_le _
        · have := allSome_len ea
          rw [List.length_map] at this
          show ar.length ≤ 60
          omega
    · cases h
  · cases h
theorem read_none : stepB "chop at pan go" = none := by decide +kernel
theorem read_big : stepB "chop at pan go pan pan 1000000000000000000" = some (((("chop" : Str), [("pan" : Str)], [(("pan" : Str), ("pan" : Str), (1000000000000000000 : Int))]) : Row)) := by decide +kernel
theorem read_big_ok : wrongR ((("chop" : Str), [("pan" : Str)], [(("pan" : Str), ("pan" : Str), (1000000000000000000 : Int))]) : Row) = none := by decide +kernel
end Vf

set_option Elab.async false
set_option linter.all false
set_option maxRecDepth 100000
set_option maxHeartbeats 1000000
/-! the text of a step is read as that step -/
namespace Vf
open PySem PySem.Spec PyProof.Rows L2
def goS : List Nat := [32, 103, 111, 32]
theorem go_word {w z : List Nat} (h : 32 ∉ w) (n : w ≠ [103, 111]) : TL.pre goS (32 :: (w ++ (32 :: z))) = false := by
  unfold TL.pre goS
  rw [Bool.eq_false_iff]
  intro e
  rw [beq_iff_eq] at e
  match w, h, n, e with
  | [], h, n, e => cases e
  | [a], h, n, e => cases e
  | [a, b], h, n, e =>
    have e : [32, a, b, 32] = [32, 103, 111, 32] := e
    injection e with _ e
    injection e with e1 e
    injection e with e2 e
    exact n (by rw [e1, e2])
  | a :: b :: c :: r, h, n, e =>
    have e : [32, a, b, c] = [32, 103, 111, 32] := e
    injection e with _ e
    injection e with _ e
    injection e with _ e
    injection e with e3 _
    exact h (by rw [e3]; simp)
theorem go_last {w : List Nat} (h : 32 ∉ w) : TL.pre goS (32 :: w) = false := by
  unfold TL.pre goS
  rw [Bool.eq_false_iff]
  intro e
  rw [beq_iff_eq] at e
  match w, h, e with
  | [], h, e => cases e
  | [a], h, e => cases e
  | [a, b], h, e => cases e
  | a :: b :: c :: r, h, e =>
    have e : [32, a, b, c] = [32, 103, 111, 32] := e
    injection e with _ e
    injection e with _ e
    injection e with _ e
    injection e with e3 _
    exact h (by rw [e3]; simp)
theorem drop_into {p q : List Nat} {i : Nat} : (p ++ (32 :: q)).drop (p.length + 1 + i) = q.drop i := by
  rw [List.drop_append, List.drop_eq_nil_of_le (by omega), List.nil_append, show p.length + 1 + i - p.length = i + 1 by omega]
  rfl
theorem no_go {rest : List Nat} : ∀ {ws : List (List Nat)}, (∀ w ∈ ws, 32 ∉ w ∧ w ≠ [103, 111]) → ∀ i, i < (TL.joinL [32] ws).length → TL.pre goS ((TL.joinL [32] ws ++ (goS ++ rest)).drop i) = false
  | [], _, i, hi => absurd hi (Nat.not_lt_zero _)
  | [w], h, i, hi => TL.free_of (S := [103, 111, 32]) (h w (by simp)).1 i hi
  | w :: w2 :: r, h, i, hi => by
    have h1 := h w (by simp)
    have h2 := h w2 (by simp)
    have e : TL.joinL [32] (w :: w2 :: r) = w ++ (32 :: TL.joinL [32] (w2 :: r)) := rfl
    have e' : TL.joinL [32] (w :: w2 :: r) ++ (goS ++ rest) = w ++ (32 :: (TL.joinL [32] (w2 :: r) ++ (goS ++ rest))) := by
      rw [e, List.append_assoc, List.cons_append]
    rw [e']
    by_cases c1 : i < w.length
    · exact TL.free_of (S := [103, 111, 32]) h1.1 i c1
    · by_cases c2 : i = w.length
      · subst c2
        rw [List.drop_left]
        cases r with
        | nil => exact go_word h2.1 h2.2
        | cons w3 r =>
          have e3 : TL.joinL [32] (w2 :: w3 :: r) ++ (goS ++ rest) = w2 ++ (32 :: (TL.joinL [32] (w3 :: r) ++ (goS ++ rest))) := by
            show (w2 ++ ([32] ++ TL.joinL [32] (w3 :: r))) ++ (goS ++ rest) = _
            rw [List.append_assoc, List.append_assoc]
            rfl
          rw [e3]
          exact go_word h2.1 h2.2
      · obtain ⟨j, rfl⟩ : ∃ j, i = w.length + 1 + j := ⟨i - (w.length + 1), by omega⟩
        rw [drop_into]
        refine no_go (fun x hx => h x (List.mem_cons_of_mem _ hx)) j ?_
        rw [e, List.length_append, List.length_cons] at hi
        omega
theorem no_go0 : ∀ {ws : List (List Nat)}, (∀ w ∈ ws, 32 ∉ w ∧ w ≠ [103, 111]) → ∀ i, i < (TL.joinL [32] ws).length → TL.pre goS ((TL.joinL [32] ws).drop i) = false
  | [], _, i, hi => absurd hi (Nat.not_lt_zero _)
  | [w], h, i, hi => by
    have := TL.free_of (S := [103, 111, 32]) (q := []) (h w (by simp)).1 i hi
    rw [List.append_nil] at this
    exact this
  | w :: w2 :: r, h, i, hi => by
    have h1 := h w (by simp)
    have h2 := h w2 (by simp)
    have e : TL.joinL [32] (w :: w2 :: r) = w ++ (32 :: TL.joinL [32] (w2 :: r)) := rfl
    rw [e]
    by_cases c1 : i < w.length
    · exact TL.free_of (S := [103, 111, 32]) h1.1 i c1
    · by_cases c2 : i = w.length
      · subst c2
        rw [List.drop_left]
        cases r with
        | nil => exact go_last h2.1
        | cons w3 r =>
          have e3 : TL.joinL [32] (w2 :: w3 :: r) = w2 ++ (32 :: TL.joinL [32] (w3 :: r)) := rfl
          rw [e3]
          exact go_word h2.1 h2.2
      · obtain ⟨j, rfl⟩ : ∃ j, i = w.length + 1 + j := ⟨i - (w.length + 1), by omega⟩
        rw [drop_into]
        refine no_go0 (fun x hx => h x (List.mem_cons_of_mem _ hx)) j ?_
        rw [e, List.length_append, List.length_cons] at hi
        omega
/-- a word of a step's text -/
def wordB (z : Str) : Prop := 32 ∉ TL.tl z ∧ z ≠ "go"
theorem tl_go : TL.tl ("go" : Str) = [103, 111] := by decide +kernel
theorem tl_gos : TL.tl (" go " : Str) = goS := by decide +kernel
theorem tl_sp : TL.tl (" " : Str) = [32] := by decide +kernel
theorem words_ok {ws : List Str} (h : ∀ z ∈ ws, wordB z) : ∀ w ∈ ws.map TL.tl, 32 ∉ w ∧ w ≠ [103, 111] := fun w hw => by
  obtain ⟨z, hz, rfl⟩ := List.mem_map.mp hw
  refine ⟨(h z hz).1, fun e => (h z hz).2 (TL.ext_tl ?_)⟩
  rw [tl_go]
  exact e
theorem part_go {ws : List Str} {tail : Str} (h : ∀ z ∈ ws, wordB z) (hne : ws ≠ []) : Txt.partition (Txt.join " " (ws ++ [("go" : Str), tail])) " go " = (Txt.join " " ws, (" go " : Str), tail) := by
  have e : TL.tl (Txt.join " " (ws ++ [("go" : Str), tail])) = TL.joinL [32] (ws.map TL.tl) ++ (goS ++ TL.tl tail) := by
    rw [tl_Join, tl_sp, List.map_append, joinL_app (fun z => hne (List.map_eq_nil_iff.mp z)) (by simp)]
    show _ ++ ([32] ++ (TL.tl ("go" : Str) ++ ([32] ++ TL.tl tail))) = _
    rw [tl_go]
    rfl
  rw [TL.partition_par _ _ (by rw [tl_gos]; decide), tl_gos, e, TL.par_part (by decide) (no_go (words_ok h))]
  show ((⟨([] ++ TL.joinL [32] (ws.map TL.tl)).toArray⟩ : Str), (" go " : Str), (⟨(TL.tl tail).toArray⟩ : Str)) = _
  have e1 : (⟨([] ++ TL.joinL [32] (ws.map TL.tl)).toArray⟩ : Str) = Txt.join " " ws := by
    refine TL.ext_tl ?_
    rw [tl_Join, tl_sp]
    rfl
  rw [e1, TL.mk_tl]
theorem part_no {ws : List Str} (h : ∀ z ∈ ws, wordB z) : Txt.partition (Txt.join " " ws) " go " = (Txt.join " " ws, Str.empty, Str.empty) := by
  have e : TL.tl (Txt.join " " ws) = TL.joinL [32] (ws.map TL.tl) := by rw [tl_Join, tl_sp]
  rw [TL.partition_par _ _ (by rw [tl_gos]; decide), tl_gos, e, TL.par_none (no_go0 (words_ok h))]
theorem split_sp {ws : List Str} (h : ∀ z ∈ ws, 32 ∉ TL.tl z) (hne : ws ≠ []) : Txt.split (Txt.join " " ws) " " = ws := TL.split_join (S := []) tl_sp (by decide +kernel) hne h
theorem nameB_word {z : Str} (h : nameB z = true) : wordB z := by
  obtain ⟨_, _, h3, h4⟩ := nameB_facts h
  refine ⟨fun hm => ?_, fun e => h3 (by rw [e]; decide)⟩
  have := h4 32 hm
  omega
theorem numL_head : ∀ n : Nat, 1 ≤ n → (TL.numL n)[0]? ≠ some 48
  | n, h => by
    by_cases h10 : n < 10
    · rw [TL.numL_lt h10]
      intro e
      have e : some (48 + n) = some 48 := e
      injection e with e
      omega
    · rw [TL.numL_step (by omega)]
      have ne := TL.numL_ne (n / 10)
      have ih := numL_head (n / 10) (by omega)
      cases e : TL.numL (n / 10) with
      | nil => exact absurd e ne
      | cons a l =>
        rw [e] at ih
        exact ih
theorem numB_num {n : Nat} (h : n < 10 ^ 19) : numB (numS n) = some (n : Int) := by
  have et : TL.tl (numS n) = TL.numL n := TL.tl_num n
  have el : (numS n).length = (TL.numL n).length := by rw [len_tl]; exact congrArg List.length et
  have l1 : 1 ≤ (TL.numL n).length := List.length_pos_iff.mpr (TL.numL_ne n)
  have l2 : (TL.numL n).length ≤ 19 := TL.numL_len (by decide) h
  have hd : digsB (numS n) = true := by
    unfold digsB
    rw [List.all_eq_true]
    intro b hb
    obtain ⟨c, hc, rfl⟩ := List.mem_map.mp hb
    have hc : c ∈ TL.numL n := et ▸ hc
    have := TL.numL_digits n c hc
    have q : ∀ c : Nat, c < 58 → 48 ≤ c → c ∈ digitL.cps.toList := by decide +kernel
    exact decide_eq_true (q c (by omega) this.1)
  have hz : zeroB (numS n) = false := by
    unfold zeroB
    rw [el]
    by_cases h1 : 1 < (TL.numL n).length
    · rw [decide_eq_true h1, Bool.true_and, decide_eq_false_iff_not]
      show ¬ (TL.tl (numS n))[0]? = some 48
      rw [et]
      refine numL_head n ?_
      by_cases h0 : n = 0
      · subst h0
        rw [TL.numL_lt (by decide)] at h1
        exact absurd h1 (by decide)
      · omega
    · rw [decide_eq_false h1, Bool.false_and]
  unfold numB
  rw [el, decide_eq_true l1, decide_eq_true l2, hd, hz]
  exact TL.int_num (by omega)
theorem tl_num_no {n s : Nat} (h : s < 48 ∨ 57 < s) : s ∉ TL.tl (numS n) := by
  have et : TL.tl (numS n) = TL.numL n := TL.tl_num n
  rw [et]
  exact TL.numL_free h
theorem arrB_row {q : Tri} (h : nameB q.1 = true ∧ nameB q.2.1 = true) (h0 : 0 ≤ q.2.2) (h1 : q.2.2 < 10 ^ 19) : arrB (rowS q) = some q := by
  obtain ⟨a, b, c⟩ := q
  obtain ⟨n, rfl⟩ := Int.eq_ofNat_of_zero_le h0
  have h1 : n < 10 ^ 19 := by
    have : ((n : Nat) : Int) < ((10 ^ 19 : Nat) : Int) := h1
    exact Int.ofNat_lt.mp this
  have e : Txt.split (rowS (a, b, (n : Int))) " " = [a, b, numS n] := split_sp (fun z hz => by
    simp only [List.mem_cons, List.not_mem_nil, or_false] at hz
    rcases hz with rfl | rfl | rfl
    · exact (nameB_word h.1).1
    · exact (nameB_word h.2).1
    · exact tl_num_no (by omega)) (by simp)
  have ha : nameB a = true := h.1
  have hb : nameB b = true := h.2
  rw [arrB_three e, ha, hb, numB_num h1]
  rfl
theorem row_comma {q : Tri} (h : nameB q.1 = true ∧ nameB q.2.1 = true) (h0 : 0 ≤ q.2.2) : 44 ∉ TL.tl (rowS q) := by
  obtain ⟨a, b, c⟩ := q
  obtain ⟨n, rfl⟩ := Int.eq_ofNat_of_zero_le h0
  have nm : ∀ z : Str, nameB z = true → 44 ∉ TL.tl z := fun z hz hm => by
    have := (nameB_facts hz).2.2.2 44 hm
    omega
  rw [tl_row]
  simp only [List.mem_append, List.mem_singleton, not_or]
  exact ⟨nm _ h.1, by decide, nm _ h.2, by decide, tl_num_no (by omega)⟩
/-- the text of a step is read as that step -/
theorem step_read {t : Str} {ps : List Str} {ts : List Tri} (g : GoodRow t ps ts) (hc : ∀ q ∈ ts, q.2.2 < 10 ^ 19) : stepB (stepS t ps ts) = some (t, ps, ts) := by
  have hat : wordB "at" := ⟨by decide +kernel, by decide +kernel⟩
  have hw : ∀ z ∈ t :: "at" :: ps, wordB z := fun z hz => by
    rcases List.mem_cons.mp hz with rfl | hz
    · exact nameB_word g.nm
    · rcases List.mem_cons.mp hz with rfl | hz
      · exact hat
      · exact nameB_word (g.pn z hz)
  obtain ⟨b, bs, eps⟩ : ∃ b bs, ps = b :: bs := by
    cases hps : ps with
    | nil => exact absurd hps g.ne
    | cons b bs => exact ⟨b, bs, rfl⟩
  have hsp : Txt.split (Txt.join " " (t :: "at" :: ps)) " " = t :: "at" :: ps := split_sp (fun z hz => (hw z hz).1) (by simp)
  have hall : (b :: bs).all nameB = true := by
    rw [← eps, List.all_eq_true]
    exact g.pn
  have fin : ∀ (x : Str) (u v : Str) (o : Option (List Tri)), Txt.partition x " go " = (Txt.join " " (t :: "at" :: ps), u, v) → arrsB (Txt.join " " (t :: "at" :: ps), u, v) = some ts → stepB x = some (t, ps, ts) := fun x u v o e1 e2 => by
    unfold stepB
    rw [e1]
    show (match Txt.split (Txt.join " " (t :: "at" :: ps)) " " with
      | a :: m :: b :: bs => if (decide (m = "at") && (nameB a && (b :: bs).all nameB)) = true then (arrsB (Txt.join " " (t :: "at" :: ps), u, v)).map fun ar => (a, b :: bs, ar) else none
      | _ => none) = _
    rw [hsp, e2, eps]
    show (if (decide (("at" : Str) = "at") && (nameB t && (b :: bs).all nameB)) = true then (some ts).map fun ar => (t, b :: bs, ar) else none) = _
    rw [decide_eq_true rfl, g.nm, hall]
    rfl
  by_cases hts : ts = []
  · subst hts
    have e : stepS t ps [] = Txt.join " " (t :: "at" :: ps) := by
      unfold stepS
      rw [if_pos rfl, List.append_nil]
    rw [e]
    exact fin _ _ _ none (part_no hw) rfl
  · have e : stepS t ps ts = Txt.join " " ((t :: "at" :: ps) ++ [("go" : Str), tailS ts]) := by
      unfold stepS
      rw [if_neg hts]
    rw [e]
    refine fin _ _ _ none (part_go hw (by simp)) ?_
    unfold arrsB
    rw [if_neg (show ¬ (" go " : Str).length = 0 by decide +kernel)]
    have hs : Txt.split (tailS ts) ", " = ts.map rowS := TL.split_join (s := 44) (S := [32]) (by decide +kernel) (by decide +kernel) (fun z => hts (List.map_eq_nil_iff.mp z)) (fun p hp => by
      obtain ⟨q, hq, rfl⟩ := List.mem_map.mp hp
      have h := g.cost hq
      exact row_comma ⟨g.pn _ h.1, g.pn _ h.2.1⟩ h.2.2)
    rw [hs]
    refine allSome_map ?_
    rw [List.map_map]
    refine List.map_congr_left fun q hq => ?_
    have h := g.cost hq
    exact arrB_row ⟨g.pn _ h.1, g.pn _ h.2.1⟩ h.2.2 (hc q hq)
/-- the text of a pair -/
def pairS (p : Str × Str) : Str := Txt.join " " [("ahead" : Str), p.1, p.2]
theorem pair_read {p : Str × Str} (h1 : nameB p.1 = true) (h2 : nameB p.2 = true) : pairB (pairS p) = some p := by
  have e : Txt.split (pairS p) " " = [("ahead" : Str), p.1, p.2] := split_sp (fun z hz => by
    simp only [List.mem_cons, List.not_mem_nil, or_false] at hz
    rcases hz with rfl | rfl | rfl
    · decide +kernel
    · exact (nameB_word h1).1
    · exact (nameB_word h2).1) (by simp)
  rw [pairB_three e, h1, h2]
  rfl
/-- a pair is no step -/
theorem pair_no_step {p : Str × Str} (h1 : nameB p.1 = true) (h2 : nameB p.2 = true) (h3 : p.1 ≠ "at") : stepB (pairS p) = none := by
  have hw : ∀ z ∈ [("ahead" : Str), p.1, p.2], wordB z := fun z hz => by
    simp only [List.mem_cons, List.not_mem_nil, or_false] at hz
    rcases hz with rfl | rfl | rfl
    · exact ⟨by decide +kernel, by decide +kernel⟩
    · exact nameB_word h1
    · exact nameB_word h2
  unfold stepB
  rw [show Txt.partition (pairS p) " go " = _ from part_no hw]
  show (match Txt.split (pairS p) " " with
      | a :: m :: b :: bs => if (decide (m = "at") && (nameB a && (b :: bs).all nameB)) = true then (arrsB _).map fun ar => (a, b :: bs, ar) else none
      | _ => none) = _
  rw [show Txt.split (pairS p) " " = _ from split_sp (fun z hz => (hw z hz).1) (by simp)]
  show (if (decide (p.1 = "at") && (nameB ("ahead" : Str) && ([p.2]).all nameB)) = true then _ else none) = _
  rw [decide_eq_false h3]
  rfl
end Vf

set_option Elab.async false
set_option linter.all false
set_option maxRecDepth 100000
set_option maxHeartbeats 1000000
/-! the law on texts of steps, its body -/
namespace Vf
open PySem PySem.Spec PyProof.Rows L2
theorem stage_good4 {t : Str} {ts : List Str} {tr : List Tri} (h0 : t ∈ [("chop" : Str), "b", "serve"]) (h1 : ts ≠ []) (h2 : ts.length ≤ 4) (h3 : ts.Nodup) (h4 : ∀ z ∈ ts, z ∈ spotsL) (h6 : Hv.RowsOf ts tr) : GoodRow t ts tr := by
  have np : ∀ z ∈ spotsL, nameB z = true := by decide +kernel
  have nt : ∀ z ∈ [("chop" : Str), "b", "serve"], nameB z = true := by decide +kernel
  refine ⟨nt t h0, h1, fun z hz => np z (h4 z hz), h3, by omega, fun q hq => ?_, h6.prs, by have := h6.len; omega, fun q hq => ?_⟩
  · obtain ⟨a, b, c, _⟩ := h6.ends q hq
    unfold arrOk
    rw [decide_eq_true a, decide_eq_true b, decide_eq_true c]
    rfl
  · exact Int.lt_of_le_of_lt (h6.ends q hq).2.2.2 (by decide)
theorem num3' {c : Int} (h : 0 ≤ c ∧ c ≤ 3) : (numS c).length = 1 ∧ lowS 122 (numS c) := by
  have h : c = 0 ∨ c = 1 ∨ c = 2 ∨ c = 3 := by omega
  rcases h with h | h | h | h <;> subst h <;> exact ⟨by decide +kernel, lowB_ok (by decide +kernel)⟩
/-- a drawn step's text -/
theorem text_small {t : Str} {ps : List Str} {ts : List Tri} (g : GoodRow t ps ts) (hp : ps.length ≤ 4) (ha : ts.length ≤ 5) (hc : ∀ q ∈ ts, 0 ≤ q.2.2 ∧ q.2.2 ≤ 3) : lowS 122 (stepS t ps ts) ∧ (stepS t ps ts).length ≤ 148 := by
  have l1 : (" " : Str).length = 1 := by decide +kernel
  have l2 : (", " : Str).length = 2 := by decide +kernel
  have la : (" at " : Str).length = 4 := by decide +kernel
  have lg : (" go " : Str).length = 4 := by decide +kernel
  have l0 : ("" : Str).length = 0 := by decide +kernel
  have low : ∀ {z : Str}, nameB z = true → lowS 122 z := fun h c hc => ((nameB_facts h).2.2.2 c hc).2
  have rl : ∀ q ∈ ts, (rowS q).length ≤ 15 ∧ lowS 122 (rowS q) := fun q hq => by
    have h := g.cost hq
    have a1 := (nameB_facts (g.pn _ h.1)).2.1
    have a2 := (nameB_facts (g.pn _ h.2.1)).2.1
    obtain ⟨a3, a4⟩ := num3' (hc q hq)
    have e := tl_row q
    refine ⟨?_, fun c hc' => ?_⟩
    · rw [len_tl, e, List.length_append, List.length_append, List.length_append, List.length_append, ← len_tl, ← len_tl, ← len_tl]
      simp only [List.length_cons, List.length_nil]
      omega
    · have hc' : c ∈ TL.tl (rowS q) := hc'
      rw [e] at hc'
      simp only [List.mem_append, List.mem_singleton] at hc'
      rcases hc' with h' | h' | h' | h' | h'
      · exact low (g.pn _ h.1) c h'
      · omega
      · exact low (g.pn _ h.2.1) c h'
      · omega
      · exact a4 c h'
  have tl := join_len (y := ", ") (xs := ts.map rowS) (m := 15) (fun x hx => by
    obtain ⟨q, hq, rfl⟩ := List.mem_map.mp hx
    exact (rl q hq).1)
  rw [l2, List.length_map] at tl
  have hl := join_len (y := " ") (xs := ps) (m := 6) fun x hx => (nameB_facts (g.pn x hx)).2.1
  rw [l1] at hl
  have t6 := (nameB_facts g.nm).2.1
  have lt : lowS 122 (tailS ts) := lowS.join (lowB_ok (by decide +kernel)) fun x hx => by
    obtain ⟨q, hq, rfl⟩ := List.mem_map.mp hx
    exact (rl q hq).2
  rw [step_text4 g.ne]
  constructor
  · refine (((low g.nm).app (lowB_ok (by decide +kernel))).app (lowS.join (lowB_ok (by decide +kernel)) fun x hx => low (g.pn x hx))).app ?_
    split
    · exact lowB_ok (by decide +kernel)
    · exact (lowB_ok (by decide +kernel) : lowS 122 (" go " : Str)).app lt
  · rw [app_len', app_len', app_len', la]
    split
    · rw [l0]; omega
    · rw [app_len', lg]
      show t.length + 4 + (Txt.join " " ps).length + (4 + (Txt.join ", " (ts.map rowS)).length) ≤ 148
      omega
section
variable {P : Program} {w : World} {K : PySem.W.Frag} {mg : Str → Option Value} {base : Heap} {cs : List Addr}
def lawM : Mc := fun ds P _ => ∃ ns : List Int, ds = [.scr ns] ∧ ns.length ≤ 63 ∧ P (.bl true)
abbrev nLaw : List Str := ["_law_script", "_law_turn", "_law_deal_here", "_law_more", "_law_stage_here", "_law_loose", "_law_line", "_law_again"]
theorem scLaw : FnScope nLaw ["_law_script"] (defScope sLaw) := ⟨rfl, rfl, rfl, by decide +kernel, rfl, by decide +kernel, by decide +kernel⟩
theorem ok_law {C CI CT fL : Addr} {dL : FuncData} (F : Fun K "law" "law" sLaw fL dL) (B : Bt mg) (TC : ClsTab K cs) (hC : C ∈ cs) (C_law_deal : CalNew P w K mg base "_law_deal" 1) (C_law_draw : CalDl P w K mg base "_law_draw" 1 1 drawM) (C_law_pick : CalDl P w K mg base "_law_pick" 2 1 pickM) (C_law_mixed : CalDl P w K mg base "_law_mixed" 2 1 mixedM) (C_law_stage : CalDl P w K mg base "_law_stage" 3 2 stageM) (C_law_spots : CalDl P w K mg base "_law_spots" 3 1 spotsM)
    (C__law_stage_text : Cal0 P w K mg base "_law_stage_text" 1 1 stageTextM) (C_law_bent : CalDl P w K mg base "_law_bent" 3 1 bentM) (C__law_heard : Cal0 P w K mg base "_law_heard" 8 1 heardM4) (C__law_due : Cal0 P w K mg base "_law_due" 2 1 dueM4) (R_Step : CalCX P w K mg base "Step" C "read" 7 2 (stepReadM C CI CT)) (I_Step : CalI P w K mg base "Step" C 5 3 stepInitM) (SE : CalE P w K mg base C 4 (stepEqM C)) : FnG P w K mg base 12 fL dL ["_law_script"] (spD K 1 lawM) := by
  refine okDG F scLaw rfl fun cdv A outer s H E hr hgd => ?_
  refine ⟨_, (pds_cons (pds_for PassesOwn.never (pdi_rng1 B.range (pda_cons (pd_blt (do_max2 rfl) B.max (pda_cons pd_int (pda_cons (pd_blt (do_min2 rfl) B.min (pda_cons pd_int (pda_cons (pd_blt (do_len rfl) B.len (pda_cons (pd_var 0) pda_nil)) pda_nil))) pda_nil))) pda_nil)) (pg_name (i := 1) scLaw.nd rfl (by first | exact .inl rfl | exact .inr rfl)) (tg_nm 1)
      (pds_cons (pds_deal (i := 2) scLaw.nd C_law_deal (hr.mono (by decide)) (pda_cons (pd_var 0) (pda_cons (pd_var 1) pda_nil)))
      (pds_one (pds_for PassesOwn.never (pdi_rng1 B.range (pda_cons pd_int pda_nil)) (pg_name (i := 3) scLaw.nd rfl (by first | exact .inl rfl | exact .inr rfl)) (tg_nm 3)
      (pds_cons (pds_set (i := 4) scLaw.nd (pd_calDl C_law_stage (hr.mono (by decide)) (pv 2) (pda_cons (pd_calDl C_law_pick (hr.mono (by decide)) (pv 2) (pda_cons (pd_lst (pda_cons pd_str (pda_cons pd_str (pda_cons pd_str pda_nil)))) pda_nil)) (pda_cons (pd_calDl C_law_spots (hr.mono (by decide)) (pv 2) (pda_cons pd_int pda_nil)) pda_nil))))
      (pds_cons (pds_set (i := 5) scLaw.nd (pd_tup (pda_cons (pd_ix (do_ix rfl) (pd_var 4) pd_int) (pda_cons (pd_calDl C_law_mixed (hr.mono (by decide)) (pv 2) (pda_cons (pd_ix (do_ix rfl) (pd_var 4) pd_int) pda_nil)) (pda_cons (pd_calDl C_law_mixed (hr.mono (by decide)) (pv 2) (pda_cons (pd_ix (do_ix rfl) (pd_var 4) pd_int) pda_nil)) pda_nil)))))
      (pds_cons (pds_set (i := 6) scLaw.nd (pd_cal C__law_stage_text (hr.mono (by decide)) (pda_cons (pd_var 5) pda_nil)))
      (pds_cons (pds_if (pdt_cmp (do_ne rfl hr.units) (pd_cal C__law_heard (hr.mono (by decide)) (pda_cons (pd_var 6) pda_nil)) (pd_cal C__law_stage_text (hr.mono (by decide)) (pda_cons (pd_var 4) pda_nil)))
      (pds_one (pds_ret pd_bl)) pds_nil)
      (pds_cons (pds_if (pdt_cmp (do_neO rfl TC hC SE (hr.mono (by decide))) (pd_calCXn R_Step (hr.mono (by decide)) (pda_cons (pd_var 6) pda_nil)) (pd_calI I_Step (hr.mono (by decide)) (pda_cons (pd_ix (do_ix rfl) (pd_var 4) pd_int) (pda_cons (pd_ix (do_ix rfl) (pd_var 4) pd_int) (pda_cons (pd_ix (do_ix rfl) (pd_var 4) pd_int) pda_nil)))))
      (pds_one (pds_ret pd_bl)) pds_nil)
      (pds_one (pds_for PassesOwn.never (pdi_rng1 B.range (pda_cons pd_int pda_nil)) (pg_name (i := 7) scLaw.nd rfl (by first | exact .inl rfl | exact .inr rfl)) (tg_nm 7)
      (pds_cons (pds_set (i := 6) scLaw.nd (pd_ite (pdt_cmp (do_ne rfl hr.units) (pd_var 6) pd_str) (pd_calDl C_law_bent (hr.mono (by decide)) (pv 2) (pda_cons (pd_var 6) pda_nil)) pd_str))
      (pds_cons (pds_if (pdt_w (pdw_or (pdt_cmp do_gt (pd_blt (do_len rfl) B.len (pda_cons (pd_split (pd_ix (do_ix rfl) (pd_split (pd_var 6) pd_str) pd_int) pd_str) pda_nil)) pd_int) (pdw_or1 (pdt_cmp do_gt (pd_count (pd_var 6) pd_str) pd_int))))
      (pds_one pds_break) pds_nil)
      (pds_one (pds_if (pdt_cmp (do_ne rfl hr.units) (pd_cal C__law_heard (hr.mono (by decide)) (pda_cons (pd_var 6) pda_nil)) (pd_cal C__law_due (hr.mono (by decide)) (pda_cons (pd_var 6) pda_nil)))
      (pds_one (pds_ret pd_bl)) pds_nil)))))))))))))))
      (pds_one (pds_ret (pd_and (pd_cmp (do_eq rfl hr.units) (pd_cal C__law_heard (hr.mono (by decide)) (pda_cons pd_str pda_nil)) pd_int) (pd_one (pd_cmp (do_ne rfl hr.units) (pd_cal C__law_heard (hr.mono (by decide)) (pda_cons pd_str pda_nil)) pd_int)))))), ?_⟩
  rintro ds P' R _ ⟨ns, rfl, hns, pp⟩
  refine ⟨ns.length, rfl, _, _, rfl, rfl, _, _, rfl, rfl, _, rfl, ?_⟩
  have hb : 0 ≤ (if (if (ns.length : Int) < 5 then (ns.length : Int) else 5) > 2 then (if (ns.length : Int) < 5 then (ns.length : Int) else 5) else 2) ∧ (if (if (ns.length : Int) < 5 then (ns.length : Int) else 5) > 2 then (if (ns.length : Int) < 5 then (ns.length : Int) else 5) else 2) ≤ 5 := by
    split <;> split <;> omega
  generalize (if (if (ns.length : Int) < 5 then (ns.length : Int) else 5) > 2 then (if (ns.length : Int) < 5 then (ns.length : Int) else 5) else 2) = n at hb
  refine ⟨by omega, by omega, ?_⟩
  refine loopD_rng (fun i ρ => ∃ s1 s2 s3 s4 s5 s6 s7 : Sl, ρ = [.val (.scr ns), s1, s2, s3, s4, s5, s6, s7]) ?_ ?_ ⟨_, _, _, _, _, _, _, rfl⟩
  · rintro ρ ⟨s1, s2, s3, s4, s5, s6, s7, rfl⟩
    refine ⟨rfl, "chop at pan go", rfl, ⟨by decide +kernel, fun r e => by rw [read_none] at e; cases e⟩, ?_⟩
    unfold toldP
    rw [read_none]
    refine ⟨.inl rfl, _, rfl, iteT ?_⟩
    refine ⟨rfl, "chop at pan go pan pan 1000000000000000000", rfl, ⟨by decide +kernel, fun r e => by rw [read_big] at e; cases e; decide⟩, ?_⟩
    unfold toldP
    rw [read_big]
    dsimp only
    rw [read_big_ok]
    intro ps' ts' _ _ _ _
    exact ⟨.inl rfl, pp⟩
  · rintro i ρ T hi hT ⟨s1, s2, s3, s4, s5, s6, s7, rfl⟩
    refine ⟨ns, (i : Nat), rfl, hns, by omega, by omega, fun p c => ⟨5, rfl, by decide, by decide, ?_⟩⟩
    refine loopD_rng (fun j ρ => ∃ s3 s4 s5 s6 s7 : Sl, ρ = [.val (.scr ns), .val (.int (i : Nat)), .deal p c, s3, s4, s5, s6, s7]) ?_ ?_ ⟨_, _, _, _, _, rfl⟩
    · rintro ρ ⟨s3, s4, s5, s6, s7, rfl⟩
      exact hT _ ⟨_, _, _, _, _, _, _, rfl⟩
    · rintro j ρ U hj hU ⟨s3, s4, s5, s6, s7, rfl⟩
      refine ⟨p, c, rfl, p, c, rfl, Nat.le_of_ble_eq_true rfl, rfl, rfl, _, [("chop" : Str), "b", "serve"].map .str, rfl, rfl, by simp, by decide, fun x hx => ?_⟩
      obtain ⟨t, ht, rfl⟩ := List.mem_map.mp hx
      refine ⟨p, c, rfl, rfl, rfl, 5, rfl, fun zs zl znd zin => ?_⟩
      have zl5 : zs.length = 5 := zl
      have zne : zs ≠ [] := by
        rintro rfl
        cases zl5
      refine ⟨rfl, rfl, t, zs, rfl, zne, by omega, znd, ?_⟩
      intro ts tr t1 t2 t3 t4 t5 t6 t7
      have g := stage_good4 ht t1 t2 t3 (fun z hz => zin z (t4 z hz)) t6
      have snm : ∀ x ∈ ts.map D.str, shN 0 x = true := fun x hx => by
        obtain ⟨z, hz, rfl⟩ := List.mem_map.mp hx
        exact nameB_sh (g.pn z hz)
      have str3 : ∀ x ∈ tr.map triD', shN 1 x = true := fun x hx => by
        obtain ⟨q, hq, rfl⟩ := List.mem_map.mp hx
        have := g.cost hq
        exact sh_tri ⟨g.pn _ this.1, g.pn _ this.2.1⟩
      have l5 := t6.len
      refine ⟨_, atI_nat (j := 0) rfl, p, c, rfl, _, atI_nat (j := 1) rfl, rfl, rfl, _, ts.map .str, 0, rfl, rfl, snm, by decide, by rw [List.length_map]; omega, fun ys py => ?_⟩
      obtain ⟨ts', pt, rfl⟩ := perm_map_inv py
      refine ⟨p, c, rfl, _, atI_nat (j := 2) rfl, rfl, rfl, _, tr.map triD', 1, rfl, rfl, str3, by decide, by rw [List.length_map]; omega, fun ys pz => ?_⟩
      obtain ⟨tr', pr, rfl⟩ := perm_map_inv pz
      have g' : GoodRow t ts' tr' := g.perm pt pr
      have c3 : ∀ q ∈ tr', 0 ≤ q.2.2 ∧ q.2.2 ≤ 3 := fun q hq => (t6.ends q (pr.mem_iff.mp hq)).2.2
      have pl := pt.length_eq
      have rl := pr.length_eq
      obtain ⟨low, len⟩ := text_small g' (by omega) (by omega) c3
      have es : stepB (stepS t ts' tr') = some (t, ts', tr') := step_read g' fun q hq => Int.lt_of_le_of_lt (c3 q hq).2 (by decide)
      have rok : ReadOk (stepS t ts' tr') := ⟨by omega, fun r e => by
        rw [es] at e
        cases e
        show tr'.length ≤ 60
        omega⟩
      have wn : wrongR (t, ts', tr') = none := g'.right (pl := .lst (ts'.map .str)) (al := .lst (tr'.map triD')) rfl rfl
      have sorted : ∀ ps us, ps.Perm ts' → Asc ltS ps → us.Perm tr' → Asc ltT us → ps = ts ∧ us = tr := fun ps us p1 a1 p2 a2 => ⟨asc_uniq lin_str a1 t5 (p1.trans pt), asc_uniq lin_tri a2 t7 (p2.trans pr)⟩
      refine ⟨Nat.le_of_ble_eq_true rfl, rfl, (t, ts', tr'), rfl, g', ?_⟩
      dsimp only
      generalize stepS t ts' tr' = line at low len es rok ⊢
      refine ⟨rfl, line, rfl, rok, ?_⟩
      unfold toldP
      rw [es]
      dsimp only
      rw [wn]
      intro ps us p1 a1 p2 a2
      obtain ⟨rfl, rfl⟩ := sorted ps us p1 a1 p2 a2
      refine ⟨rfl, (t, ps, us), rfl, g, .inl rfl, _, rfl, ?_⟩
      rw [eq_dec, decide_eq_true rfl]
      refine iteF ⟨rfl, line, rfl, rok, ?_⟩
      unfold readP
      rw [es]
      dsimp only
      rw [wn]
      intro ps2 us2 p3 a3 p4 a4
      obtain ⟨rfl, rfl⟩ := sorted ps2 us2 p3 a3 p4 a4
      refine ⟨_, atI_nat (j := 0) rfl, _, atI_nat (j := 1) rfl, _, atI_nat (j := 2) rfl, rfl, t, _, _, ps2, us2, rfl, rfl, rfl, g, fun ps3 us3 p5 a5 p6 a6 => ?_⟩
      obtain ⟨rfl, rfl⟩ := sorted ps3 us3 (p5.trans pt.symm) a5 (p6.trans pr.symm) a6
      refine ⟨_, _, _, _, rfl, rfl, (t, ps3, us3), (t, ps3, us3), rfl, g, g, _, rfl, _, rfl, ?_⟩
      rw [decide_eq_true rfl]
      refine iteF ⟨3, rfl, by decide, by decide, ?_⟩
      refine loopD_rng (fun a ρ => ∃ (z : Str) (s7 : Sl), ρ = [.val (.scr ns), .val (.int (i : Nat)), .deal p c, .val (.int (j : Nat)), .val (.tup [.str t, .lst (ps3.map .str), .lst (us3.map triD')]), .val (.tup [.str t, .lst (ts'.map .str), .lst (tr'.map triD')]), .val (.str z), s7] ∧ lowS 122 z ∧ z.length + 10 ≤ 158 * 2 ^ a) ?_ ?_ ⟨line, _, rfl, low, by omega⟩
      · rintro ρ ⟨z, s7, rfl, _, _⟩
        exact hU _ ⟨_, _, _, _, _, rfl⟩
      · rintro a ρ V ha hV ⟨z, s7, rfl, lz, hz⟩
        have h2 : 2 ^ a ≤ 4 := by
          have : a = 0 ∨ a = 1 ∨ a = 2 := by omega
          rcases this with rfl | rfl | rfl <;> decide
        have h3 : 2 ^ (a + 1) = 2 * 2 ^ a := by rw [Nat.pow_succ]; omega
        refine seq_inv (fun ρ => ∃ z : Str, ρ = [.val (.scr ns), .val (.int (i : Nat)), .deal p c, .val (.int (j : Nat)), .val (.tup [.str t, .lst (ps3.map .str), .lst (us3.map triD')]), .val (.tup [.str t, .lst (ts'.map .str), .lst (tr'.map triD')]), .val (.str z), .val (.int (a : Nat))] ∧ lowS 122 z ∧ z.length + 10 ≤ 158 * 2 ^ (a + 1)) ?_ ?_
        · rintro ρ ⟨z, rfl, lz, hz⟩
          obtain ⟨_, ne⟩ := split_sum (x := z) (y := " go ") (by decide +kernel) (by decide +kernel)
          have hp : ∀ x ∈ Txt.split z " go ", x.length ≤ z.length := fun x h => part_short h
          refine ⟨⟨_, rfl⟩, z, " go ", rfl, rfl, by decide +kernel, big_le (by omega), ?_⟩
          generalize Txt.split z " go " = hs at ne hp ⊢
          obtain ⟨h, r, rfl⟩ : ∃ h r, hs = h :: r := by
            cases hs with
            | nil => exact absurd rfl ne
            | cons h r => exact ⟨h, r, rfl⟩
          have hh := hp h List.mem_cons_self
          refine ⟨_, atI_nat (j := 0) rfl, ⟨_, rfl⟩, h, " ", rfl, rfl, by decide +kernel, big_le (by omega), _, rfl, trivial, _, rfl, ?_⟩
          have brk : U [.val (.scr ns), .val (.int (i : Nat)), .deal p c, .val (.int (j : Nat)), .val (.tup [.str t, .lst (ps3.map .str), .lst (us3.map triD')]), .val (.tup [.str t, .lst (ts'.map .str), .lst (tr'.map triD')]), .val (.str z), .val (.int (a : Nat))] := hU _ ⟨_, _, _, _, _, rfl⟩
          by_cases h6 : ((((Txt.split h " ").map D.str).length : Nat) : Int) > 6
          · rw [decide_eq_true h6]
            exact iteT (iteT brk)
          rw [decide_eq_false h6]
          refine iteF ⟨⟨_, rfl⟩, z, ",", rfl, rfl, trivial, _, rfl, ?_⟩
          by_cases h5 : Txt.count z "," > 5
          · rw [decide_eq_true h5]
            exact iteT brk
          rw [decide_eq_false h5]
          have rk : ReadOk z := ⟨by omega, fun r e => arrows_few e (by omega)⟩
          refine iteF ⟨rfl, z, rfl, rk, ?_⟩
          have same : toldP z (fun x => toldP z fun y => okEq x y ∧ (dEq x y = true)) := toldP_same ⟨.inl rfl, rfl⟩ fun s => ⟨.inl rfl, beq_self_eq_true s⟩
          refine toldP_mono (fun x hx => ?_) same
          refine ⟨rfl, z, rfl, lz, rk, toldP_mono (fun y hy => ⟨hy.1, _, rfl, ?_⟩) hx⟩
          rw [hy.2]
          exact iteF (hV _ ⟨z, _, rfl, lz, hz⟩)
        · intro W hW
          refine ⟨.inl rfl, _, rfl, ?_⟩
          rw [eq_dec]
          by_cases e0 : z = ("" : Str)
          · rw [decide_eq_true e0]
            refine iteF (hW _ ⟨("chop at pan" : Str), rfl, lowB_ok (by decide +kernel), ?_⟩)
            have : ("chop at pan" : Str).length = 11 := by decide +kernel
            have : 1 ≤ 2 ^ a := Nat.one_le_two_pow
            omega
          · rw [decide_eq_false e0]
            exact iteT ⟨p, c, rfl, rfl, rfl, z, rfl, lz, e0, by omega, fun z' g1 g2 => hW _ ⟨z', rfl, g1, by omega⟩⟩
end
end Vf

set_option Elab.async false
set_option linter.all false
set_option maxRecDepth 100000
set_option maxHeartbeats 4000000
namespace Vf
open PySem PySem.Spec PyProof.Rows L2
theorem law_sp {K : PySem.W.Frag} {H : Hp} {a : Addr} {ns : List Int} (hl : ns.length ≤ 63) (hS : SqL K H a (ns.map V.int)) : spD K 1 lawM [.ref a] H (fun v _ => v = .bl true) fun _ _ _ => False :=
  ⟨H, [.scr ns], fun d => d = .bl true, fun _ => False, Same.refl _, RpAll.cons ⟨a, rfl, hS⟩ RpAll.nil, rfl, ⟨ns, rfl, hl, rfl⟩, fun d v H' G' p ex rp => by subst p; exact rp, fun _ _ _ _ _ z => z.elim⟩
theorem all_mk {l : PySem.W.OpenLaw} {w : World} {K : PySem.W.Frag} {h : Heap} {mg : Str → Option Value} {fa CS gI d0 fL gE gS gR PE CI fX CT fT fIn fNu fNa fSe fPl fAr fAs fNt fAt fSt fDe fDr fPi fMi fSp fSg fTx fTi fCo fDu fHe fBe : Addr} (X : K.In h) (G : h.Ns mainGlobals mg) (hfa : mg "law" = some (.ref fa))
    (aC : PySem.W.nsIn K mainGlobals "Step" = some (some (.ref CS)))
    (rC : ClRaw K CS)
    (kC : Mk K CS gI)
    (p1 : PySem.W.findIn K (.ref CS) "name" = some none)
    (p2 : PySem.W.findIn K (.ref CS) "places" = some none)
    (p3 : PySem.W.findIn K (.ref CS) "arrows" = some none)
    (nI : FnRawV K "__init__" "Step.__init__" sStepInit gI (.ref d0))
    (oC : OwnTxt K CS gE gS)
    (nS : FnRaw K "__str__" "Step.__str__" sStepStr gS)
    (nE : FnRaw K "__eq__" "Step.__eq__" sStepEq gE)
    (cRS : ∃ mc p, ClX.CRead K CS mc ∧ ClX.CMet K CS mc "read" p gR)
    (nSR : FnRaw K "read" "Step.read" sStepRead gR)
    (aPE : PySem.W.nsIn K mainGlobals "PlateError" = some (some (.ref PE)))
    (rPE : CRaw K PE [.type "ValueError", .type "Exception", .type "BaseException", .type "object"] "ValueError.__new__")
    (aIS : PySem.W.nsIn K mainGlobals "InvalidStep" = some (some (.ref CI)))
    (rIS : CRaw K CI [.ref PE, .type "ValueError", .type "Exception", .type "BaseException", .type "object"] "ValueError.__new__")
    (yIS : XRaw K CI fX "word")
    (nX : FnRaw K "__init__" "InvalidStep.__init__" sInvalidStepInit fX)
    (aIT : PySem.W.nsIn K mainGlobals "InvalidText" = some (some (.ref CT)))
    (rIT : CRaw K CT [.ref PE, .type "ValueError", .type "Exception", .type "BaseException", .type "object"] "ValueError.__new__")
    (ne1 : CT ≠ CI)
    (ne2 : CT ≠ PE)
    (ne3 : CI ≠ PE)
    (yIT : XRaw K CT fT "at")
    (nT : FnRaw K "__init__" "InvalidText.__init__" sInvalidTextInit fT)
    (cn : CnRaw K)
    (ct : CnRawT K)
    (aL : PySem.W.nsIn K mainGlobals "law" = some (some (.ref fL)))
    (nL : FnRaw K "law" "law" sLaw fL)
    (aIn : PySem.W.nsIn K mainGlobals "is_integer" = some (some (.ref fIn)))
    (nIn : FnRaw K "is_integer" "is_integer" sIsInteger fIn)
    (aNu : PySem.W.nsIn K mainGlobals "is_number" = some (some (.ref fNu)))
    (nNu : FnRaw K "is_number" "is_number" sIsNumber fNu)
    (aNa : PySem.W.nsIn K mainGlobals "is_name" = some (some (.ref fNa)))
    (nNa : FnRaw K "is_name" "is_name" sIsName fNa)
    (aSe : PySem.W.nsIn K mainGlobals "is_sequence" = some (some (.ref fSe)))
    (nSe : FnRaw K "is_sequence" "is_sequence" sIsSequence fSe)
    (aPl : PySem.W.nsIn K mainGlobals "are_places" = some (some (.ref fPl)))
    (nPl : FnRaw K "are_places" "are_places" sArePlaces fPl)
    (aAr : PySem.W.nsIn K mainGlobals "is_arrow" = some (some (.ref fAr)))
    (nAr : FnRaw K "is_arrow" "is_arrow" sIsArrow fAr)
    (aAs : PySem.W.nsIn K mainGlobals "are_arrows" = some (some (.ref fAs)))
    (nAs : FnRaw K "are_arrows" "are_arrows" sAreArrows fAs)
    (aNt : PySem.W.nsIn K mainGlobals "number_told" = some (some (.ref fNt)))
    (nNt : FnRaw K "number_told" "number_told" sNumberTold fNt)
    (aAt : PySem.W.nsIn K mainGlobals "arrow_told" = some (some (.ref fAt)))
    (nAt : FnRaw K "arrow_told" "arrow_told" sArrowTold fAt)
    (aSt : PySem.W.nsIn K mainGlobals "step_told" = some (some (.ref fSt)))
    (nSt : FnRaw K "step_told" "step_told" sStepTold fSt)
    (aDe : PySem.W.nsIn K mainGlobals "_law_deal" = some (some (.ref fDe)))
    (nDe : FnRaw K "_law_deal" "_law_deal" sDeal fDe)
    (aDr : PySem.W.nsIn K mainGlobals "_law_draw" = some (some (.ref fDr)))
    (nDr : FnRaw K "_law_draw" "_law_draw" sDraw fDr)
    (aPi : PySem.W.nsIn K mainGlobals "_law_pick" = some (some (.ref fPi)))
    (nPi : FnRaw K "_law_pick" "_law_pick" sPick fPi)
    (aMi : PySem.W.nsIn K mainGlobals "_law_mixed" = some (some (.ref fMi)))
    (nMi : FnRaw K "_law_mixed" "_law_mixed" sMixed fMi)
    (aSp : PySem.W.nsIn K mainGlobals "_law_spots" = some (some (.ref fSp)))
    (nSp : FnRaw K "_law_spots" "_law_spots" sSpots fSp)
    (aSg : PySem.W.nsIn K mainGlobals "_law_stage" = some (some (.ref fSg)))
    (nSg : FnRaw K "_law_stage" "_law_stage" sStage fSg)
    (aTx : PySem.W.nsIn K mainGlobals "_law_stage_text" = some (some (.ref fTx)))
    (nTx : FnRaw K "_law_stage_text" "_law_stage_text" sStageText fTx)
    (aTi : PySem.W.nsIn K mainGlobals "_law_is_title" = some (some (.ref fTi)))
    (nTi : FnRaw K "_law_is_title" "_law_is_title" sIsTitle fTi)
    (aCo : PySem.W.nsIn K mainGlobals "_law_is_cost" = some (some (.ref fCo)))
    (nCo : FnRaw K "_law_is_cost" "_law_is_cost" sIsCost fCo)
    (aDu : PySem.W.nsIn K mainGlobals "_law_due" = some (some (.ref fDu)))
    (nDu : FnRaw K "_law_due" "_law_due" sDue fDu)
    (aHe : PySem.W.nsIn K mainGlobals "_law_heard" = some (some (.ref fHe)))
    (nHe : FnRaw K "_law_heard" "_law_heard" sHeard fHe)
    (aBe : PySem.W.nsIn K mainGlobals "_law_bent" = some (some (.ref fBe)))
    (nBe : FnRaw K "_law_bent" "_law_bent" sBent fBe)
    (z_int : PySem.W.nsIn K mainGlobals "int" = some none)
    (z_abs : PySem.W.nsIn K mainGlobals "abs" = some none)
    (z_len : PySem.W.nsIn K mainGlobals "len" = some none)
    (z_range : PySem.W.nsIn K mainGlobals "range" = some none)
    (z_tuple : PySem.W.nsIn K mainGlobals "tuple" = some none)
    (z_list : PySem.W.nsIn K mainGlobals "list" = some none)
    (z_set : PySem.W.nsIn K mainGlobals "set" = some none)
    (z_sorted : PySem.W.nsIn K mainGlobals "sorted" = some none)
    (z_min : PySem.W.nsIn K mainGlobals "min" = some none)
    (z_max : PySem.W.nsIn K mainGlobals "max" = some none)
    (z_all : PySem.W.nsIn K mainGlobals "all" = some none)
    (z_isinstance : PySem.W.nsIn K mainGlobals "isinstance" = some none)
    (z_str : PySem.W.nsIn K mainGlobals "str" = some none)
    (z_bool : PySem.W.nsIn K mainGlobals "bool" = some none)
    (z_enumerate : PySem.W.nsIn K mainGlobals "enumerate" = some none)
    (z_repr : PySem.W.nsIn K mainGlobals "repr" = some none)
    (z_type : PySem.W.nsIn K mainGlobals "type" = some none)
    (z_any : PySem.W.nsIn K mainGlobals "any" = some none)
    (z_sum : PySem.W.nsIn K mainGlobals "sum" = some none)
    (z_zip : PySem.W.nsIn K mainGlobals "zip" = some none)
    (z_reversed : PySem.W.nsIn K mainGlobals "reversed" = some none)
    (z_dict : PySem.W.nsIn K mainGlobals "dict" = some none)
    (z_ValueError : PySem.W.nsIn K mainGlobals "ValueError" = some none)
    (z_KeyError : PySem.W.nsIn K mainGlobals "KeyError" = some none)
    (z_IndexError : PySem.W.nsIn K mainGlobals "IndexError" = some none)
    : ∃ fd : FuncData, (∀ (s : Shared) (v : Value), BindsTo s fd ⟨[v], []⟩ [("_law_script", v)]) ∧ ∀ base : Heap, K.In base → base.Ns mainGlobals mg → FnG l.prog w K mg base 12 fa fd ["_law_script"] (spD K 1 lawM) := by
  have M : ∀ {x : Str} {v : Value}, PySem.W.nsIn K mainGlobals x = some (some v) → mg x = some v := fun z => PySem.W.mg_of X G z
  have e := hfa.symm.trans (M aL)
  cases e
  obtain ⟨dIn, FIn⟩ := nIn.fn
  obtain ⟨dNu, FNu⟩ := nNu.fn
  obtain ⟨dNa, FNa⟩ := nNa.fn
  obtain ⟨dSe, FSe⟩ := nSe.fn
  obtain ⟨dPl, FPl⟩ := nPl.fn
  obtain ⟨dAr, FAr⟩ := nAr.fn
  obtain ⟨dAs, FAs⟩ := nAs.fn
  obtain ⟨dNt, FNt⟩ := nNt.fn
  obtain ⟨dAt, FAt⟩ := nAt.fn
  obtain ⟨dSt, FSt⟩ := nSt.fn
  obtain ⟨dDe, FDe⟩ := nDe.fn
  obtain ⟨dDr, FDr⟩ := nDr.fn
  obtain ⟨dPi, FPi⟩ := nPi.fn
  obtain ⟨dMi, FMi⟩ := nMi.fn
  obtain ⟨dSp, FSp⟩ := nSp.fn
  obtain ⟨dSg, FSg⟩ := nSg.fn
  obtain ⟨dTx, FTx⟩ := nTx.fn
  obtain ⟨dTi, FTi⟩ := nTi.fn
  obtain ⟨dCo, FCo⟩ := nCo.fn
  obtain ⟨dDu, FDu⟩ := nDu.fn
  obtain ⟨dHe, FHe⟩ := nHe.fn
  obtain ⟨dBe, FBe⟩ := nBe.fn
  obtain ⟨dS, FS⟩ := nS.fn
  obtain ⟨dE, FE⟩ := nE.fn
  obtain ⟨dSR, FSR⟩ := nSR.fn
  obtain ⟨dL, FL⟩ := nL.fn
  obtain ⟨dI, FI⟩ := nI.fn (v := .ref d0) rfl
  have bIn : Binds K dIn ["value"] [] := FIn.binds (ps := ["value"]) fun _ _ _ _ _ _ us hl => match us, hl with | [_], _ => rfl
  have bNu : Binds K dNu ["value"] [] := FNu.binds (ps := ["value"]) fun _ _ _ _ _ _ us hl => match us, hl with | [_], _ => rfl
  have bNa : Binds K dNa ["value"] [] := FNa.binds (ps := ["value"]) fun _ _ _ _ _ _ us hl => match us, hl with | [_], _ => rfl
  have bSe : Binds K dSe ["value"] [] := FSe.binds (ps := ["value"]) fun _ _ _ _ _ _ us hl => match us, hl with | [_], _ => rfl
  have bPl : Binds K dPl ["value"] [] := FPl.binds (ps := ["value"]) fun _ _ _ _ _ _ us hl => match us, hl with | [_], _ => rfl
  have bAr : Binds K dAr ["value", "places"] [] := FAr.binds (ps := ["value", "places"]) fun _ _ _ _ _ _ us hl => match us, hl with | [_, _], _ => rfl
  have bAs : Binds K dAs ["value", "places"] [] := FAs.binds (ps := ["value", "places"]) fun _ _ _ _ _ _ us hl => match us, hl with | [_, _], _ => rfl
  have bNt : Binds K dNt ["word"] [] := FNt.binds (ps := ["word"]) fun _ _ _ _ _ _ us hl => match us, hl with | [_], _ => rfl
  have bAt : Binds K dAt ["part"] [] := FAt.binds (ps := ["part"]) fun _ _ _ _ _ _ us hl => match us, hl with | [_], _ => rfl
  have bSt : Binds K dSt ["line"] [] := FSt.binds (ps := ["line"]) fun _ _ _ _ _ _ us hl => match us, hl with | [_], _ => rfl
  have bDe : Binds K dDe ["_law_script", "_law_base"] [] := FDe.binds (ps := ["_law_script", "_law_base"]) fun _ _ _ _ _ _ us hl => match us, hl with | [_, _], _ => rfl
  have bDr : Binds K dDr ["_law_deal_here", "_law_many"] [] := FDr.binds (ps := ["_law_deal_here", "_law_many"]) fun _ _ _ _ _ _ us hl => match us, hl with | [_, _], _ => rfl
  have bPi : Binds K dPi ["_law_deal_here", "_law_some"] [] := FPi.binds (ps := ["_law_deal_here", "_law_some"]) fun _ _ _ _ _ _ us hl => match us, hl with | [_, _], _ => rfl
  have bMi : Binds K dMi ["_law_deal_here", "_law_some"] [] := FMi.binds (ps := ["_law_deal_here", "_law_some"]) fun _ _ _ _ _ _ us hl => match us, hl with | [_, _], _ => rfl
  have bSp : Binds K dSp ["_law_deal_here", "_law_many"] [] := FSp.binds (ps := ["_law_deal_here", "_law_many"]) fun _ _ _ _ _ _ us hl => match us, hl with | [_, _], _ => rfl
  have bSg : Binds K dSg ["_law_deal_here", "_law_title", "_law_spots_here"] [] := FSg.binds (ps := ["_law_deal_here", "_law_title", "_law_spots_here"]) fun _ _ _ _ _ _ us hl => match us, hl with | [_, _, _], _ => rfl
  have bTx : Binds K dTx ["_law_stage_here"] [] := FTx.binds (ps := ["_law_stage_here"]) fun _ _ _ _ _ _ us hl => match us, hl with | [_], _ => rfl
  have bTi : Binds K dTi ["_law_word"] [] := FTi.binds (ps := ["_law_word"]) fun _ _ _ _ _ _ us hl => match us, hl with | [_], _ => rfl
  have bCo : Binds K dCo ["_law_word"] [] := FCo.binds (ps := ["_law_word"]) fun _ _ _ _ _ _ us hl => match us, hl with | [_], _ => rfl
  have bDu : Binds K dDu ["_law_line"] [] := FDu.binds (ps := ["_law_line"]) fun _ _ _ _ _ _ us hl => match us, hl with | [_], _ => rfl
  have bHe : Binds K dHe ["_law_line"] [] := FHe.binds (ps := ["_law_line"]) fun _ _ _ _ _ _ us hl => match us, hl with | [_], _ => rfl
  have bBe : Binds K dBe ["_law_deal_here", "_law_line"] [] := FBe.binds (ps := ["_law_deal_here", "_law_line"]) fun _ _ _ _ _ _ us hl => match us, hl with | [_, _], _ => rfl
  have bS : Binds K dS ["self"] [] := FS.binds (ps := ["self"]) fun _ _ _ _ _ _ us hl => match us, hl with | [_], _ => rfl
  have bE : Binds K dE ["self", "other"] [] := FE.binds (ps := ["self", "other"]) fun _ _ _ _ _ _ us hl => match us, hl with | [_, _], _ => rfl
  have bSR : Binds K dSR ["cls", "text"] [] := FSR.binds (ps := ["cls", "text"]) fun _ _ _ _ _ _ us hl => match us, hl with | [_, _], _ => rfl
  obtain ⟨xI, yI, bI⟩ := FI.binds1 (ps := ["self", "name", "places", "arrows"]) 4 1 (by simp) rfl fun T kV doc pm an cdv ct us its h1 h2 => match us, its, h1, h2 with | [_, _, _, _], [_], _, _ => ⟨_, rfl, rfl⟩
  cases yI
  have wI := FI.binds1 (ps := ["self", "name", "places", "arrows"]) 3 0 (by simp) rfl fun T kV doc pm an cdv ct us its h1 h2 => match us, its, h1, h2 with | [_, _, _], [_], _, _ => ⟨_, rfl, rfl⟩
  have B : Bt mg := bt_mk X G fun x hx => by
    simp only [List.mem_cons, List.not_mem_nil, or_false] at hx
    rcases hx with rfl | rfl | rfl | rfl | rfl | rfl | rfl | rfl | rfl | rfl | rfl | rfl | rfl | rfl | rfl | rfl | rfl | rfl | rfl | rfl | rfl | rfl | rfl | rfl | rfl
    all_goals assumption
  have hb : ∀ (s : Shared) (v : Value), BindsTo s dL ⟨[v], []⟩ [("_law_script", v)] := by
    obtain ⟨oc, od, kV, doc, pm, an, cdv, ct, osl, rfl, lk, hcd⟩ := FL.ex
    exact fun s v => .of_eq rfl
  have Cc := cn.cn X G
  have Ct := ct.cn X G
  have TC : ClsTab K [CS] := rC.tab
  have TS : StepC K mg CS := ⟨M aC, rC.cl, p1, p2, p3⟩
  obtain ⟨dX, FX⟩ := nX.fn
  have NT : IsTxt K mg CI fX dX := ⟨xcV (M aIS) rIS yIS (rIS.exc rC.hn rC.ht), FX, xbinds FX (fun _ _ _ _ _ _ _ _ => rfl) (fun _ _ _ _ _ _ _ _ => rfl), rIS.ty⟩
  have FY : Flies4 K mg PE CI CT := flies4_mk (M aPE) rPE rIS rIT ne1 ne2 ne3
  obtain ⟨dT, FT⟩ := nT.fn
  have NA : IsAt K mg CT fT dT := ⟨xcV (M aIT) rIT yIT (rIT.exc rC.hn rC.ht), FT, xbinds FT (fun _ _ _ _ _ _ _ _ => rfl) (fun _ _ _ _ _ _ _ _ => rfl), rIT.ty⟩
  refine ⟨dL, hb, fun base _ _ => ?_⟩
  have DIn : Df K mg "is_integer" sIsInteger ["value"] fIn dIn := ⟨FIn, bIn, M aIn⟩
  have DNu : Df K mg "is_number" sIsNumber ["value"] fNu dNu := ⟨FNu, bNu, M aNu⟩
  have DNa : Df K mg "is_name" sIsName ["value"] fNa dNa := ⟨FNa, bNa, M aNa⟩
  have DSe : Df K mg "is_sequence" sIsSequence ["value"] fSe dSe := ⟨FSe, bSe, M aSe⟩
  have DPl : Df K mg "are_places" sArePlaces ["value"] fPl dPl := ⟨FPl, bPl, M aPl⟩
  have DAr : Df K mg "is_arrow" sIsArrow ["value", "places"] fAr dAr := ⟨FAr, bAr, M aAr⟩
  have DAs : Df K mg "are_arrows" sAreArrows ["value", "places"] fAs dAs := ⟨FAs, bAs, M aAs⟩
  have DNt : Df K mg "number_told" sNumberTold ["word"] fNt dNt := ⟨FNt, bNt, M aNt⟩
  have DAt : Df K mg "arrow_told" sArrowTold ["part"] fAt dAt := ⟨FAt, bAt, M aAt⟩
  have DSt : Df K mg "step_told" sStepTold ["line"] fSt dSt := ⟨FSt, bSt, M aSt⟩
  have DDe : Df K mg "_law_deal" sDeal ["_law_script", "_law_base"] fDe dDe := ⟨FDe, bDe, M aDe⟩
  have DDr : Df K mg "_law_draw" sDraw ["_law_deal_here", "_law_many"] fDr dDr := ⟨FDr, bDr, M aDr⟩
  have DPi : Df K mg "_law_pick" sPick ["_law_deal_here", "_law_some"] fPi dPi := ⟨FPi, bPi, M aPi⟩
  have DMi : Df K mg "_law_mixed" sMixed ["_law_deal_here", "_law_some"] fMi dMi := ⟨FMi, bMi, M aMi⟩
  have DSp : Df K mg "_law_spots" sSpots ["_law_deal_here", "_law_many"] fSp dSp := ⟨FSp, bSp, M aSp⟩
  have DSg : Df K mg "_law_stage" sStage ["_law_deal_here", "_law_title", "_law_spots_here"] fSg dSg := ⟨FSg, bSg, M aSg⟩
  have DTx : Df K mg "_law_stage_text" sStageText ["_law_stage_here"] fTx dTx := ⟨FTx, bTx, M aTx⟩
  have DTi : Df K mg "_law_is_title" sIsTitle ["_law_word"] fTi dTi := ⟨FTi, bTi, M aTi⟩
  have DCo : Df K mg "_law_is_cost" sIsCost ["_law_word"] fCo dCo := ⟨FCo, bCo, M aCo⟩
  have DDu : Df K mg "_law_due" sDue ["_law_line"] fDu dDu := ⟨FDu, bDu, M aDu⟩
  have DHe : Df K mg "_law_heard" sHeard ["_law_line"] fHe dHe := ⟨FHe, bHe, M aHe⟩
  have DBe : Df K mg "_law_bent" sBent ["_law_deal_here", "_law_line"] fBe dBe := ⟨FBe, bBe, M aBe⟩
  have GIn := cal_isInteger (P := l.prog) (w := w) (base := base) DIn B TC
  have GNu := cal_isNum (P := l.prog) (w := w) (base := base) DNu GIn
  have GNa := cal_isName (P := l.prog) (w := w) (base := base) DNa B Cc TC
  have GSe := cal_isSeq (P := l.prog) (w := w) (base := base) DSe B TC
  have GPl := cal_arePlaces (P := l.prog) (w := w) (base := base) DPl GSe GNa B
  have GAr := cal_isArr (P := l.prog) (w := w) (base := base) DAr GNu B TC
  have GAs := cal_areArrs (P := l.prog) (w := w) (base := base) DAs GSe GAr B
  have GNt := cal_numTold (P := l.prog) (w := w) (base := base) DNt B Ct
  have GAt := cal_arrTold (P := l.prog) (w := w) (base := base) DAt GNa GNt B
  have GSt := cal_stepTold (P := l.prog) (w := w) (base := base) DSt GNa GAt B
  have GStep := cal_step (P := l.prog) (w := w) (base := base) ⟨FI, bI, wI⟩ TS kC GNa GPl GAs B
  have GStepX := cal_stepX (P := l.prog) (w := w) (base := base) ⟨FI, bI, wI⟩ TS kC GNa GPl GAs B NT
  have GRead := cal_stepRead (P := l.prog) (w := w) (base := base) ⟨FSR, bSR, cRS, M aC⟩ GSt GStepX NA
  have GS := cal_stepStr (P := l.prog) (w := w) (base := base) FS bS oC TS
  have GE := cal_stepEq (P := l.prog) (w := w) (base := base) FE bE oC TS TC (List.mem_cons_self) B GS
  have GDe := cal_deal (P := l.prog) (w := w) (base := base) DDe B
  have GDr := cal_draw (P := l.prog) (w := w) (base := base) DDr B
  have GPi := cal_pick (P := l.prog) (w := w) (base := base) DPi GDr B
  have GMi := cal_mixed (P := l.prog) (w := w) (base := base) DMi GDr B
  have GSp := cal_spots (P := l.prog) (w := w) (base := base) DSp GMi
  have GSg := cal_stage (P := l.prog) (w := w) (base := base) DSg DDr DPi DMi B
  have GTx := cal_stageText (P := l.prog) (w := w) (base := base) DTx B
  have GTi := cal_isTitle4 (P := l.prog) (w := w) (base := base) DTi B
  have GCo := cal_isCost (P := l.prog) (w := w) (base := base) DCo B
  have GDu := cal_due4 (P := l.prog) (w := w) (base := base) DDu B GTi GCo GTx
  have GHe := cal_heard4 (P := l.prog) (w := w) (base := base) DHe B GS NT NA FY GRead
  have GBe := cal_bent (P := l.prog) (w := w) (base := base) DBe B GDr GPi
  exact ok_law FL B TC (List.mem_cons_self) GDe GDr GPi GMi GSg GSp GTx GBe GHe GDu GRead GStep GE
end Vf

set_option Elab.async false
set_option maxRecDepth 100000
open PySem PySem.W PyProof.Rows
set_option maxHeartbeats 0 in
theorem PySem.Challenge.cw_plateways_k04_texts_of_steps_holds : PySem.Challenge.rw_plateways_k04_texts_of_steps.Holds := by
  w_on; o_law; k_head; (case hw => w_witness2)
  k_fill
  refine Vf.walkG (l := PySem.Challenge.rw_plateways_k04_texts_of_steps) (n := 63) (k := 12) (x := "_law_script") (sp := fun K => Vf.spD K 1 Vf.lawM) rfl (by decide) rfl ⟨rfl, by decide, by decide⟩ (fun w h Y => PySem.W.kIn_of Y) ?F (fun K H a ns hl _ hS => Vf.law_sp hl hS)
  case F =>
    intro w mg fa h KX G hmg
    refine' Vf.all_mk KX G hmg ?aC ?rC ?kC ?p1 ?p2 ?p3 ?nI ?oC ?nS ?nE ?cRS ?nSR ?aPE ?rPE ?aIS ?rIS ?yIS ?nX ?aIT ?rIT ?ne1 ?ne2 ?ne3 ?yIT ?nT ?cn ?ct ?aL ?nL ?aIn ?nIn ?aNu ?nNu ?aNa ?nNa ?aSe ?nSe ?aPl ?nPl ?aAr ?nAr ?aAs ?nAs ?aNt ?nNt ?aAt ?nAt ?aSt ?nSt ?aDe ?nDe ?aDr ?nDr ?aPi ?nPi ?aMi ?nMi ?aSp ?nSp ?aSg ?nSg ?aTx ?nTx ?aTi ?nTi ?aCo ?nCo ?aDu ?nDu ?aHe ?nHe ?aBe ?nBe ?z_int ?z_abs ?z_len ?z_range ?z_tuple ?z_list ?z_set ?z_sorted ?z_min ?z_max ?z_all ?z_isinstance ?z_str ?z_bool ?z_enumerate ?z_repr ?z_type ?z_any ?z_sum ?z_zip ?z_reversed ?z_dict ?z_ValueError ?z_KeyError ?z_IndexError
    (case aC => k_is)
    (case rC => exact ⟨⟨by k_is, by k_is, by k_is, by k_is⟩, by k_is, by k_is, by k_is, by k_is, by k_is, by k_is, by k_is, by k_is, by k_is, by k_is⟩)
    (case kC => exact ⟨by k_is, by k_is, by k_is, by k_is⟩)
    (case p1 => k_is)
    (case p2 => k_is)
    (case p3 => k_is)
    (case nI => exact ⟨⟨_, _, _, _, _, _, _, _, _, _, _, _, by k_is, by k_is, by k_is, rfl⟩, by k_is⟩)
    (case oC => exact ⟨by k_is, by k_is, by k_is, by k_is, by k_is, by k_is⟩)
    (case nS => exact ⟨⟨_, _, _, _, _, _, _, _, _, by k_is, by k_is⟩, by k_is⟩)
    (case nE => exact ⟨⟨_, _, _, _, _, _, _, _, _, by k_is, by k_is⟩, by k_is⟩)
    (case cRS => exact ⟨.type "type", _, ⟨by k_is, by k_is⟩, ⟨by k_is, ⟨_, by k_is⟩, by k_is⟩⟩)
    (case nSR => exact ⟨⟨_, _, _, _, _, _, _, _, _, by k_is, by k_is⟩, by k_is⟩)
    (case aPE => k_is)
    (case rPE => exact ⟨⟨_, _, _, _, _, _, _, _, _, _, _, _, _, _, by k_is⟩, by k_is, by k_is, by k_is, by k_is, by k_is, by k_is, by k_is⟩)
    (case aIS => k_is)
    (case rIS => exact ⟨⟨_, _, _, _, _, _, _, _, _, _, _, _, _, _, by k_is⟩, by k_is, by k_is, by k_is, by k_is, by k_is, by k_is, by k_is⟩)
    (case yIS => exact ⟨by k_is, by k_is, by k_is, by k_is⟩)
    (case nX => exact ⟨⟨_, _, _, _, _, _, _, _, _, by k_is, by k_is⟩, by k_is⟩)
    (case aIT => k_is)
    (case rIT => exact ⟨⟨_, _, _, _, _, _, _, _, _, _, _, _, _, _, by k_is⟩, by k_is, by k_is, by k_is, by k_is, by k_is, by k_is, by k_is⟩)
    (case ne1 => decide)
    (case ne2 => decide)
    (case ne3 => decide)
    (case yIT => exact ⟨by k_is, by k_is, by k_is, by k_is⟩)
    (case nT => exact ⟨⟨_, _, _, _, _, _, _, _, _, by k_is, by k_is⟩, by k_is⟩)
    (case cn => exact ⟨_, _, _, _, _, _, by k_is, by k_is, by k_is, by k_is, rfl, rfl, by decide, .cons ⟨_, rfl⟩ (.cons ⟨_, rfl⟩ (.cons ⟨_, rfl⟩ (.cons ⟨_, rfl⟩ (.cons ⟨_, rfl⟩ (.cons ⟨_, rfl⟩ .nil)))))⟩)
    (case ct => exact ⟨_, _, by k_is, by k_is⟩)
    (case aL => k_is)
    (case nL => exact ⟨⟨_, _, _, _, _, _, _, _, _, by k_is, by k_is⟩, by k_is⟩)
    (case aIn => k_is)
    (case nIn => exact ⟨⟨_, _, _, _, _, _, _, _, _, by k_is, by k_is⟩, by k_is⟩)
    (case aNu => k_is)
    (case nNu => exact ⟨⟨_, _, _, _, _, _, _, _, _, by k_is, by k_is⟩, by k_is⟩)
    (case aNa => k_is)
    (case nNa => exact ⟨⟨_, _, _, _, _, _, _, _, _, by k_is, by k_is⟩, by k_is⟩)
    (case aSe => k_is)
    (case nSe => exact ⟨⟨_, _, _, _, _, _, _, _, _, by k_is, by k_is⟩, by k_is⟩)
    (case aPl => k_is)
    (case nPl => exact ⟨⟨_, _, _, _, _, _, _, _, _, by k_is, by k_is⟩, by k_is⟩)
    (case aAr => k_is)
    (case nAr => exact ⟨⟨_, _, _, _, _, _, _, _, _, by k_is, by k_is⟩, by k_is⟩)
    (case aAs => k_is)
    (case nAs => exact ⟨⟨_, _, _, _, _, _, _, _, _, by k_is, by k_is⟩, by k_is⟩)
    (case aNt => k_is)
    (case nNt => exact ⟨⟨_, _, _, _, _, _, _, _, _, by k_is, by k_is⟩, by k_is⟩)
    (case aAt => k_is)
    (case nAt => exact ⟨⟨_, _, _, _, _, _, _, _, _, by k_is, by k_is⟩, by k_is⟩)
    (case aSt => k_is)
    (case nSt => exact ⟨⟨_, _, _, _, _, _, _, _, _, by k_is, by k_is⟩, by k_is⟩)
    (case aDe => k_is)
    (case nDe => exact ⟨⟨_, _, _, _, _, _, _, _, _, by k_is, by k_is⟩, by k_is⟩)
    (case aDr => k_is)
    (case nDr => exact ⟨⟨_, _, _, _, _, _, _, _, _, by k_is, by k_is⟩, by k_is⟩)
    (case aPi => k_is)
    (case nPi => exact ⟨⟨_, _, _, _, _, _, _, _, _, by k_is, by k_is⟩, by k_is⟩)
    (case aMi => k_is)
    (case nMi => exact ⟨⟨_, _, _, _, _, _, _, _, _, by k_is, by k_is⟩, by k_is⟩)
    (case aSp => k_is)
    (case nSp => exact ⟨⟨_, _, _, _, _, _, _, _, _, by k_is, by k_is⟩, by k_is⟩)
    (case aSg => k_is)
    (case nSg => exact ⟨⟨_, _, _, _, _, _, _, _, _, by k_is, by k_is⟩, by k_is⟩)
    (case aTx => k_is)
    (case nTx => exact ⟨⟨_, _, _, _, _, _, _, _, _, by k_is, by k_is⟩, by k_is⟩)
    (case aTi => k_is)
    (case nTi => exact ⟨⟨_, _, _, _, _, _, _, _, _, by k_is, by k_is⟩, by k_is⟩)
    (case aCo => k_is)
    (case nCo => exact ⟨⟨_, _, _, _, _, _, _, _, _, by k_is, by k_is⟩, by k_is⟩)
    (case aDu => k_is)
    (case nDu => exact ⟨⟨_, _, _, _, _, _, _, _, _, by k_is, by k_is⟩, by k_is⟩)
    (case aHe => k_is)
    (case nHe => exact ⟨⟨_, _, _, _, _, _, _, _, _, by k_is, by k_is⟩, by k_is⟩)
    (case aBe => k_is)
    (case nBe => exact ⟨⟨_, _, _, _, _, _, _, _, _, by k_is, by k_is⟩, by k_is⟩)
    (case z_int => k_is)
    (case z_abs => k_is)
    (case z_len => k_is)
    (case z_range => k_is)
    (case z_tuple => k_is)
    (case z_list => k_is)
    (case z_set => k_is)
    (case z_sorted => k_is)
    (case z_min => k_is)
    (case z_max => k_is)
    (case z_all => k_is)
    (case z_isinstance => k_is)
    (case z_str => k_is)
    (case z_bool => k_is)
    (case z_enumerate => k_is)
    (case z_repr => k_is)
    (case z_type => k_is)
    (case z_any => k_is)
    (case z_sum => k_is)
    (case z_zip => k_is)
    (case z_reversed => k_is)
    (case z_dict => k_is)
    (case z_ValueError => k_is)
    (case z_KeyError => k_is)
    (case z_IndexError => k_is)

