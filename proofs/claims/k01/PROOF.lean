import PyProof.Rows.All
import Wide.All
import OpenK.AllK
import Wide.FinOn
import HandS.ForMost
import HandS.ForExc
import HandS.Style
import HandS.IsInst
import HandS.ExcInit
import HandS.Evl
import HandS.ExcIs
import HandS.ExcValue
import HandS.MakeKw
import HandS.Walk
import PySem.Challenge.RW_plateways_k01_errors_and_what_they_keep
set_option Elab.async false
set_option linter.all false
set_option maxRecDepth 100000
set_option maxHeartbeats 2000000
/-! general words: a pair of addresses set apart, a turned slice -/
namespace Vf
open PySem PySem.Spec PyProof.Rows L2

/-- the abstract heap without two addresses (a dealer and its cells) -/
def hide (p c : Addr) (H : Hp) : Hp := fun b => if b = p ∨ b = c then none else H b
theorem hide_p {p c : Addr} {H : Hp} : hide p c H p = none := if_pos (.inl rfl)
theorem hide_c {p c : Addr} {H : Hp} : hide p c H c = none := if_pos (.inr rfl)
theorem hide_ne {p c b : Addr} {H : Hp} (h1 : b ≠ p) (h2 : b ≠ c) : hide p c H b = H b := if_neg fun z => z.elim h1 h2
theorem hide_some {p c b : Addr} {H : Hp} {o : HO} (e : hide p c H b = some o) : b ≠ p ∧ b ≠ c ∧ H b = some o := by
  unfold hide at e
  split at e
  · cases e
  · rename_i hn
    exact ⟨fun z => hn (.inl z), fun z => hn (.inr z), e⟩
theorem hide_le {p c : Addr} {H : Hp} : Same (hide p c H) H := fun b o e => (hide_some e).2.2
theorem hide_mono {p c : Addr} {H H' : Hp} (s : Same H H') : Same (hide p c H) (hide p c H') := fun b o e => by
  obtain ⟨h1, h2, e⟩ := hide_some e
  rw [hide_ne h1 h2]
  exact s b o e
theorem same_new {H : Hp} {q : Addr} {o : HO} (h : H q = none) : Same H (upd H q o) := fun b u e => by
  rw [upd_ne (ne_of_none e h)]
  exact e
/-- what is written at the dealer or its cells is not seen -/
theorem hide_updp {p c : Addr} {H : Hp} {o : HO} : hide p c (upd H p o) = hide p c H := by
  funext b
  unfold hide
  split
  · rfl
  · rename_i hn
    exact upd_ne fun z => hn (.inl z)
theorem hide_updc {p c : Addr} {H : Hp} {o : HO} : hide p c (upd H c o) = hide p c H := by
  funext b
  unfold hide
  split
  · rfl
  · rename_i hn
    exact upd_ne fun z => hn (.inr z)

section
variable {X : Cx}
/-- e[::s], s = -1 -/
def tTurn (K : PySem.W.Frag) (te : TE) (ts : TO) : TE := fun σ H Q => te σ H fun x H1 => ∃ a xs, x = .ref a ∧ ts σ H1 fun o H2 => o = some (-1) ∧ SqL K H2 a xs ∧ ∀ p, H2 p = none → Q (.ref p) (upd H2 p (.lst xs.reverse))
theorem pe_turn {e st : Expr} {te : TE} {ts : TO} {p3 pos : Pos} (he : PE X e te) (hs : PO X (some st) ts) : PE X (.Subscript e (.Slice none none (some st) p3) pos) (tTurn X.K te ts) := by
  refine ⟨fun pins s σ H Q I h => ?_⟩
  refine Subscript_ (thn (he.run pins s σ H _ I h) fun v s1 ⟨x, H1, I1, r1, a, xs, ex, q⟩ => ?_)
  subst ex
  cases r1
  refine wpAny_Slice (thn (po_none.run pins s1 σ H1 (fun o K2 => o = none ∧ K2 = H1) I1 ⟨rfl, rfl⟩) fun vl s2 ⟨l, H2, I2, pl, el, e2⟩ => ?_)
  subst el e2
  refine thn (po_none.run pins s2 σ H2 (fun o K3 => o = none ∧ K3 = H2) I2 ⟨rfl, rfl⟩) fun vu s3 ⟨u, H3, I3, pu, eu, e3⟩ => ?_
  subst eu e3
  refine thn (hs.run pins s3 σ H3 _ I3 q) fun vs s4 ⟨o, H4, I4, ps, eo, hx, q4⟩ => ?_
  subst eo
  have I5 := I4.kept (t' := s4.toks) (h' := s4.heap.push { cls := .type "slice", data := .fields #[vl, vu, vs] }) fun b ob z => Heap.get?_push_of_some _ z
  obtain ⟨its, r, ht, hz⟩ := I5.list hx
  have hlen := r.length
  refine tail_any (ops := [.ref a, .ref s4.heap.objs.size]) ht.isList.typeIs (PySem.slot_list_getitem.lookup) ?_ (by with_unfolding_all rfl)
  refine wpAny_getItem_list_slice ht.isList (Heap.IsSliceOf.new _ vl vu vs) pl pu ps (by decide) ?_ (by rw [List.size_toArray]; omega)
  rw [PySem.W.krv_pick]
  refine ⟨.ref _, _, I5.laid (t' := s4.toks) (o := .lst xs.reverse) (fun b ob z => Heap.get?_push_of_some _ z) (Nat.le_refl _) ?_, rfl, q4 _ (I5.hok.fresh (Nat.le_refl _))⟩
  exact ⟨by rw [List.length_reverse]; exact hz, _, 0, r.reverse, Heap.get?_push_size _ rfl⟩
end

theorem cut_ints (ns : List Int) (lo hi : Option Int) : ∃ cs : List Int, cutV (ns.map V.int) lo hi = cs.map V.int ∧ cs.length ≤ ns.length := by
  refine ⟨(ns.drop (HT.sIx (ns.map V.int).length 0 lo)).take (HT.sIx (ns.map V.int).length (ns.map V.int).length hi - HT.sIx (ns.map V.int).length 0 lo), ?_, ?_⟩
  · unfold cutV
    rw [List.map_take, List.map_drop]
  · rw [List.length_take, List.length_drop]
    omega
theorem int_at {cs : List Int} {i : Nat} {x : V} (h : (cs.map V.int)[i]? = some x) : ∃ z, cs[i]? = some z ∧ x = .int z := by
  rw [List.getElem?_map] at h
  cases e : cs[i]? with
  | none =>
    rw [e] at h
    cases h
  | some z =>
    rw [e] at h
    exact ⟨z, rfl, (Option.some.inj h).symm⟩
theorem lt_of_at {α : Type} {cs : List α} {i : Nat} {x : α} (h : cs[i]? = some x) : i < cs.length := (List.getElem?_eq_some_iff.mp h).1
theorem map_snoc {α β : Type} (f : α → β) (l : List α) (x : α) : l.map f ++ [f x] = (l ++ [x]).map f := by
  rw [List.map_append]
  rfl
theorem small100 {n : Nat} (h : n ≤ 100000) : n < sizeLine := Nat.lt_of_le_of_lt h (by decide)
theorem yes_then {σ : L2.St} {H : Hp} {F G : Hp → Prop} (h : F H) : tYes σ H (fun b H3 => if b = true then F H3 else G H3) := by
  show (if true = true then F H else G H)
  rw [if_pos rfl]
  exact h

/-! data -/
theorem dpAll_ints {K : PySem.W.Frag} {H : Hp} : ∀ bs : List Int, DpAll K H (bs.map V.int) (bs.map PyData.int)
  | [] => .nil
  | b :: bs => .cons (.int b) (dpAll_ints bs)
theorem canLay_ints : ∀ bs : List Int, PyData.canLayAll0 (bs.map PyData.int) = true
  | [] => by simp [PyData.canLayAll0]
  | b :: bs => by simp [PyData.canLayAll0, PyData.canLay0, canLay_ints bs]
theorem depth_ints : ∀ bs : List Int, PyData.depthAll (bs.map PyData.int) = 0
  | [] => by simp [PyData.depthAll]
  | b :: bs => by simp [PyData.depthAll, PyData.depth, depth_ints bs]
theorem shaped_ints (bs : List Int) : SeqAt.shaped (.list (bs.map PyData.int)) = true := by
  simp [SeqAt.shaped, PyData.canLay0, PyData.depth, canLay_ints, depth_ints]
theorem shaped_nil : SeqAt.shaped (.list []) = true := shaped_ints []
theorem eqv_nil (ds : List PyData) : PyData.eqv (.list ds) (.list []) = ds.isEmpty := by
  cases ds <;> simp [PyData.eqv, PyData.eqvAll]
theorem last_at {α : Type} {l : List α} (h : l ≠ []) : ∃ x, l[l.length - 1]? = some x ∧ l = l.dropLast ++ [x] ∧ atI l (-1) = some x := by
  have hd := (List.dropLast_concat_getLast h).symm
  refine ⟨l.getLast h, ?_, hd, ?_⟩
  · rw [← List.getLast?_eq_getElem?, List.getLast?_eq_some_getLast h]
  · have q := atI_last l.dropLast (l.getLast h)
    rw [← hd] at q
    exact q

theorem same_seqT {K : PySem.W.Frag} {H H' : Hp} {a : Addr} {xs : List V} (e : Same H H') (h : SqT K H a xs) : SqT K H' a xs := by
  rcases h with (h | ⟨o, h⟩) | h
  · exact .inl (.inl (e _ _ h))
  · exact .inl (.inr ⟨o, e _ _ h⟩)
  · exact .inr h
mutual
theorem dp_mono {K : PySem.W.Frag} {H H' : Hp} (e : Same H H') : ∀ (d : PyData) (v : V), Dp K H v d → Dp K H' v d
  | .none, _, h => by
    cases h
    exact .non
  | .bool b, _, h => by
    cases h
    exact .bl b
  | .int i, _, h => by
    cases h
    exact .int i
  | .str x, _, h => by
    cases h
    exact .str x
  | .list ds, _, h => by
    cases h with
    | lst hs ha => exact .lst (e.seq hs) (dpAll_mono e ds _ ha)
  | .tuple ds, _, h => by
    cases h with
    | tup hs ha => exact .tup (same_seqT e hs) (dpAll_mono e ds _ ha)
  | .dict _, _, h => by cases h
theorem dpAll_mono {K : PySem.W.Frag} {H H' : Hp} (e : Same H H') : ∀ (ds : List PyData) (vs : List V), DpAll K H vs ds → DpAll K H' vs ds
  | [], _, h => by
    cases h
    exact .nil
  | d :: ds, _, h => by
    cases h with
    | cons h1 h2 => exact .cons (dp_mono e d _ h1) (dpAll_mono e ds _ h2)
end
theorem dpAll_at {K : PySem.W.Frag} {H : Hp} : ∀ {vs : List V} {ds : List PyData} {i : Nat} {v : V}, DpAll K H vs ds → vs[i]? = some v → ∃ d, ds[i]? = some d ∧ Dp K H v d
  | _, _, _, _, .nil, h => by simp at h
  | _, _, 0, _, .cons a _, h => by
    simp at h
    subst h
    exact ⟨_, rfl, a⟩
  | _, _, i + 1, _, .cons _ r, h => by
    obtain ⟨d, h1, h2⟩ := dpAll_at (i := i) r (by simpa using h)
    exact ⟨d, by simpa using h1, h2⟩
theorem dpAll_snoc {K : PySem.W.Frag} {H : Hp} {v : V} {d : PyData} (x : Dp K H v d) : ∀ {vs : List V} {ds : List PyData}, DpAll K H vs ds → DpAll K H (vs ++ [v]) (ds ++ [d])
  | _, _, .nil => .cons x .nil
  | _, _, .cons a r => .cons a (dpAll_snoc x r)
theorem dpAll_len {K : PySem.W.Frag} {H : Hp} : ∀ {vs : List V} {ds : List PyData}, DpAll K H vs ds → vs.length = ds.length
  | _, _, .nil => rfl
  | _, _, .cons _ r => congrArg (· + 1) (dpAll_len r)

/-- a datum that can be compared and shown, at most n deep -/
structure Good (n : Nat) (d : PyData) : Prop where
  lay : d.canLay0 = true
  dep : d.depth ≤ n + 1
  sho : d.showable = true
  nod : d.hasDict = false
  len : d.shown.length ≤ 25 * 4 ^ n
theorem four_pos (n : Nat) : 1 ≤ 4 ^ n := Nat.one_le_pow _ _ (by decide)
theorem Good.mono {n m : Nat} {d : PyData} (g : Good n d) (h : n ≤ m) : Good m d :=
  ⟨g.lay, Nat.le_trans g.dep (by omega), g.sho, g.nod, Nat.le_trans g.len (Nat.mul_le_mul_left _ (Nat.pow_le_pow_right (by decide) h))⟩
theorem good_all {n : Nat} : ∀ {ds : List PyData}, (∀ d ∈ ds, Good n d) → PyData.canLayAll0 ds = true ∧ PyData.depthAll ds ≤ n + 1 ∧ PyData.showableAll ds = true ∧ PyData.hasDictAll ds = false ∧
    ((PyData.shownAll ds).map (·.length)).sum ≤ ds.length * (25 * 4 ^ n) ∧ (PyData.shownAll ds).length = ds.length
  | [], _ => by simp [PyData.canLayAll0, PyData.depthAll, PyData.showableAll, PyData.hasDictAll, PyData.shownAll]
  | d :: ds, h => by
    obtain ⟨h1, h2, h3, h4, h5, h6⟩ := good_all (ds := ds) fun x hx => h x (List.mem_cons_of_mem _ hx)
    have g := h d List.mem_cons_self
    refine ⟨?_, ?_, ?_, ?_, ?_, ?_⟩
    · simp [PyData.canLayAll0, g.lay, h1]
    · simp only [PyData.depthAll]
      have := g.dep
      omega
    · simp [PyData.showableAll, g.sho, h3]
    · simp [PyData.hasDictAll, g.nod, h4]
    · simp only [PyData.shownAll, List.map_cons, List.sum_cons, List.length_cons]
      have := g.len
      rw [Nat.add_mul]
      omega
    · simp [PyData.shownAll, h6]
theorem good_list {n : Nat} {ds : List PyData} (h : ∀ d ∈ ds, Good n d) (h3 : ds.length ≤ 3) : Good (n + 1) (.list ds) := by
  obtain ⟨h1, h2, h3', h4, h5, h6⟩ := good_all h
  have := four_pos n
  refine ⟨by simpa [PyData.canLay0] using h1, by simp only [PyData.depth]; omega, by simpa [PyData.showable] using h3', by simpa [PyData.hasDict] using h4, ?_⟩
  have q := listText_len_le (PyData.shownAll ds)
  simp only [PyData.shown]
  have m : ds.length * (25 * 4 ^ n) ≤ 3 * (25 * 4 ^ n) := Nat.mul_le_mul_right _ h3
  rw [Nat.pow_succ]
  omega
theorem good_tuple {n : Nat} {ds : List PyData} (h : ∀ d ∈ ds, Good n d) (h3 : ds.length ≤ 3) : Good (n + 1) (.tuple ds) := by
  obtain ⟨h1, h2, h3', h4, h5, h6⟩ := good_all h
  have := four_pos n
  refine ⟨by simpa [PyData.canLay0] using h1, by simp only [PyData.depth]; omega, by simpa [PyData.showable] using h3', by simpa [PyData.hasDict] using h4, ?_⟩
  have q := tupleText_len_le (PyData.shownAll ds)
  simp only [PyData.shown]
  have m : ds.length * (25 * 4 ^ n) ≤ 3 * (25 * 4 ^ n) := Nat.mul_le_mul_right _ h3
  rw [Nat.pow_succ]
  omega
theorem Good.shaped {n : Nat} {d : PyData} (g : Good n d) (h : n ≤ 63) : SeqAt.shaped d = true := by
  have := g.dep
  simp [SeqAt.shaped, g.lay]
  omega
/-- the data from which the things are made -/
def seeds : List PyData := [.none, .bool true, .bool false, .int 0, .int 1, .int (-2), .str "", .str "a", .str "go", .str "board", .str "A", .str "a\n", .tuple [], .list [], .tuple [.str "a", .str "b", .int 0], .tuple [.str "a", .str "b"]]
theorem good_seed : ∀ d ∈ seeds, Good 0 d := by
  have h : seeds.all (fun d => d.canLay0 && decide (d.depth ≤ 1) && d.showable && !d.hasDict && decide (d.shown.length ≤ 25)) = true := by decide +kernel
  intro d hd
  have q := List.all_eq_true.mp h d hd
  simp only [Bool.and_eq_true, decide_eq_true_eq, Bool.not_eq_true'] at q
  exact ⟨q.1.1.1.1, by omega, q.1.1.2, q.1.2, by simpa using q.2⟩
/-- a heap by a name -/
theorem named {F : Hp → Prop} {G0 : Hp} (f : F G0) : ∃ G, F G ∧ G0 = G := ⟨G0, f, rfl⟩

/-- one address more is set apart -/
theorem hide_two {p c l : Addr} {H H' : Hp} (s : Same (hide p c H) (hide p c H')) : Same (hide p c (hide l l H)) (hide p c (hide l l H')) := fun b o e => by
  obtain ⟨h1, h2, e1⟩ := hide_some e
  obtain ⟨h3, _, e2⟩ := hide_some e1
  have q := s b o (by rw [hide_ne h1 h2]; exact e2)
  obtain ⟨_, _, q2⟩ := hide_some q
  rw [hide_ne h1 h2, hide_ne h3 h3]
  exact q2
theorem hide_one {p c l : Addr} {H : Hp} : Same (hide p c (hide l l H)) (hide p c H) := hide_mono hide_le
theorem hide_upd1 {p c l : Addr} {H : Hp} {o : HO} : hide p c (hide l l (upd H l o)) = hide p c (hide l l H) := by rw [hide_updp]
theorem hide_new {p c l : Addr} {H : Hp} {o : HO} (h : H l = none) : Same (hide p c H) (hide p c (hide l l (upd H l o))) := fun b u e => by
  obtain ⟨h1, h2, e1⟩ := hide_some e
  have n := ne_of_none e1 h
  rw [hide_ne h1 h2, hide_ne n n, upd_ne n]
  exact e1
theorem hide_off {p c l : Addr} {H H0 : Hp} (h : H0 l = none) (s : Same (hide p c H0) (hide p c H)) : Same (hide p c H0) (hide p c (hide l l H)) := fun b u e => by
  obtain ⟨h1, h2, e1⟩ := hide_some e
  have n := ne_of_none e1 h
  obtain ⟨_, _, q⟩ := hide_some (s b u e)
  rw [hide_ne h1 h2, hide_ne n n]
  exact q

/-! what is new -/
def fresh (H H' : Hp) : Hp := fun b => if H b = none then H' b else none
theorem fresh_in {H H' : Hp} {b : Addr} (n : H b = none) : fresh H H' b = H' b := if_pos n
theorem fresh_some {H H' : Hp} {b : Addr} {o : HO} (e : fresh H H' b = some o) : H b = none ∧ H' b = some o := by
  unfold fresh at e
  split at e
  · exact ⟨by assumption, e⟩
  · cases e
theorem fresh_le {H H' : Hp} : Same (fresh H H') H' := fun b o e => (fresh_some e).2
theorem fresh_mono {H H1 H2 : Hp} (s : Same H1 H2) : Same (fresh H H1) (fresh H H2) := fun b o e => by
  obtain ⟨n, e⟩ := fresh_some e
  rw [fresh_in n]
  exact s b o e
theorem fresh_step {H G H' : Hp} {p c : Addr} (hp : H p ≠ none) (hc : H c ≠ none) (s : Same (hide p c G) (hide p c H')) : Same (fresh H G) (fresh H H') := fun b o e => by
  obtain ⟨n, e⟩ := fresh_some e
  have h1 : b ≠ p := fun z => hp (z ▸ n)
  have h2 : b ≠ c := fun z => hc (z ▸ n)
  rw [fresh_in n]
  exact hide_le _ _ (s b o (by rw [hide_ne h1 h2]; exact e))
def Kept (H H' : Hp) : Prop := ∀ b, H b ≠ none → H' b ≠ none
theorem kept_of {H H' : Hp} {p c : Addr} (hp : H' p ≠ none) (hc : H' c ≠ none) (s : Same (hide p c H) (hide p c H')) : Kept H H' := fun b h => by
  by_cases h1 : b = p
  · rw [h1]
    exact hp
  · by_cases h2 : b = c
    · rw [h2]
      exact hc
    · cases e : H b with
      | none => exact absurd e h
      | some o =>
        have q := hide_le _ _ (s b o (by rw [hide_ne h1 h2]; exact e))
        rw [q]
        intro z
        cases z
theorem fresh_sub {H H3 H4 : Hp} {L : Addr} (k : Kept H H3) (hL : H3 L ≠ none) : Same (fresh H3 H4) (hide L L (fresh H H4)) := fun b o e => by
  obtain ⟨n, e⟩ := fresh_some e
  have h1 : b ≠ L := fun z => hL (z ▸ n)
  have h2 : H b = none := by
    cases q : H b with
    | none => rfl
    | some u => exact absurd n (k b (by rw [q]; intro z; cases z))
  rw [hide_ne h1 h1, fresh_in h2]
  exact e
theorem fresh_updL {H H4 : Hp} {L : Addr} {o : HO} : hide L L (fresh H (upd H4 L o)) = hide L L (fresh H H4) := by
  funext b
  by_cases h : b = L
  · rw [h, hide_p, hide_p]
  · rw [hide_ne h h, hide_ne h h]
    unfold fresh
    rw [upd_ne h]
theorem same_hide {p c : Addr} {H H' : Hp} (s : Same H H') (hp : H p = none) (hc : H c = none) : Same H (hide p c H') := fun b o e => by
  rw [hide_ne (ne_of_none e hp) (ne_of_none e hc)]
  exact s b o e
theorem room110 {k : Nat} {A : Around} (r : Room k A) : A.units + 110 < cLine := by
  have := r.un
  omega
theorem good_late : Good 3 (.str "late") := by
  have h : ((PyData.str "late").canLay0 && (PyData.str "late").showable && !(PyData.str "late").hasDict && decide ((PyData.str "late").shown.length ≤ 25)) = true := by decide +kernel
  simp only [Bool.and_eq_true, decide_eq_true_eq, Bool.not_eq_true'] at h
  exact ⟨h.1.1.1, by decide, h.1.1.2, h.1.2, Nat.le_trans h.2 (by decide)⟩
end Vf

set_option Elab.async false
set_option linter.all false
set_option maxRecDepth 100000
set_option maxHeartbeats 2000000
namespace Vf
open PySem PySem.Spec PyProof.Rows L2

def top (i : Nat) : Stmt := PySem.Challenge.pw_plateways_k01_errors_and_what_they_keep.main.body.getD i (.Pass ⟨0, 0, 0, 0⟩)
abbrev sDeal : Stmt := top 16
abbrev sDraw : Stmt := top 17
abbrev sPick : Stmt := top 18
abbrev sThing : Stmt := top 20

/-- the built-ins are still what they were -/
structure Bt (mg : Str → Option Value) : Prop where
  int : mg "int" = none
  abs : mg "abs" = none
  len : mg "len" = none
  range : mg "range" = none
  tuple : mg "tuple" = none
  list : mg "list" = none

/-- a dealer at p: its great numbers' list at c, its stirred number -/
structure DealAt (H : Hp) (p c : Addr) : Prop where
  ex : ∃ (bs : List Int) (st : Int), H p = some (.lst [.ref c, .int st]) ∧ H c = some (.lst (bs.map V.int)) ∧ 0 ≤ st ∧ st < 2147483647 ∧ bs.length ≤ 63

section
variable {P : Program} {w : World} {K : PySem.W.Frag} {mg : Str → Option Value} {base : Heap}

def spDeal (K : PySem.W.Frag) : Sp := fun vs H Q _ => ∃ (a : Addr) (ns : List Int) (b : Int), vs = [.ref a, .int b] ∧ SqL K H a (ns.map V.int) ∧ ns.length ≤ 63 ∧ 0 ≤ b ∧ b ≤ 63 ∧
  ∀ p c H', H p = none → H c = none → Same H H' → DealAt H' p c → Q (.ref p) H'

abbrev nDeal : List Str := ["_law_script", "_law_base", "_law_stirred", "_law_cell", "_law_cells"]
theorem scDeal : FnScope nDeal ["_law_script", "_law_base"] (defScope sDeal) := ⟨rfl, rfl, rfl, by decide +kernel, rfl, by decide +kernel, by decide +kernel⟩

theorem ok_deal {f : Addr} {fd : FuncData} (F : Fun K "_law_deal" "_law_deal" sDeal f fd) (B : Bt mg) : FnOk P w K mg base CX0 1 f fd ["_law_script", "_law_base"] (spDeal K) := by
  refine F.ok scDeal (fun vs H Q E h => ?_) (fun cdv A outer s H vs Q E hr h => ?_)
  · obtain ⟨a, ns, b, rfl, _⟩ := h
    rfl
  · obtain ⟨a, ns, b, rfl, hS, hl, hb0, hb1, k⟩ := h
    refine ⟨_, pss_cons (ps_set (i := 2) scDeal.nd rfl (.inl rfl) (pe_op op_add pe_int (pe_op op_mul pe_int (pv 1))))
      (pss_cons (ps_setLc (i := 4) (own := [("_law_cell", 3)]) (g := gName 3) (tt := tYes) rfl scDeal.nd rfl rfl (sw_true rfl rfl rfl (by decide +kernel))
          (pi_list (pe_slice sl_list (pv 0) (po_some (pv 1)) (po_some pe_int))) (blkOk_by (N := nDeal) (sc := defScope sDeal) (by decide +kernel))
          (fun _ _ _ _ _ => pg_name (i := 3) scDeal.nd rfl (.inl rfl)) (fun _ _ _ _ _ => pts_nil)
          (fun _ _ _ _ _ => pe_callB call_abs (by rfl) B.abs (by decide +kernel) (pa_cons (pe_callTy call_int1 (by rfl) B.int (by decide +kernel) (pa_cons (pv 3) pa_nil)) pa_nil)))
      (pss_cons (ps_for PassesOwn.never rfl (pi_list (pv 4)) (pg_name (i := 3) scDeal.nd rfl (.inl rfl))
          (pss_one (ps_set (i := 2) scDeal.nd rfl (.inl rfl) (pe_op op_mod (pe_callTy call_int1 (by rfl) B.int (by decide +kernel) (pa_cons (pe_op op_add (pe_op op_add (pe_op op_mul (pv 2) pe_int) (pe_op op_mod (pe_callTy call_int1 (by rfl) B.int (by decide +kernel) (pa_cons (pv 3) pa_nil)) pe_int)) pe_int) pa_nil)) pe_int))))
      (pss_one (ps_ret (pe_lst (pa_cons (pe_turn (pe_lc (own := [("_law_cell", 3)]) (g := gName 3) rfl scDeal.nd (pi_list (pv 4)) (blkOk_by (N := nDeal) (sc := defScope sDeal) (by decide +kernel))
          (fun _ _ _ _ _ => pg_name (i := 3) scDeal.nd rfl (.inl rfl)) (fun _ _ _ _ _ => pts_one (pt_cmpR op_ge (pv 3) (pe_op op_pow pe_int pe_int) (nomark _))) (fun _ _ _ _ _ => pv 3)) (po_some (pe_op op_sub pe_int pe_int))) (pa_cons (pv 2) pa_nil))))))), ?_⟩
    refine ⟨_, rfl, _, _, rfl, rfl, .inl ⟨by decide, by decide⟩, _, _, rfl, rfl, ?_⟩
    obtain ⟨cs, ec, hcl⟩ := cut_ints ns (some b) (some 60)
    refine ⟨_, rfl, _, rfl, _, rfl, _, rfl, a, ns.map V.int, rfl, hS, fun q hq => ?_⟩
    rw [ec]
    have s0 : Same H (upd H q (.lst (cs.map V.int))) := same_new hq
    refine ⟨q, rfl, ⟨_, SqL.of upd_same⟩, fun D hD => ?_⟩
    have nD : H D = none := s0.free hD
    refine lc_list (K := K) (a := q) (xs := cs.map V.int) (fun i H' => ∃ acc : List Int, H' D = some (.lst (acc.map V.int)) ∧ acc.length = i ∧ Same (upd H q (.lst (cs.map V.int))) H')
      ⟨[], upd_same, rfl, same_new hD⟩ (fun i H' _ ⟨_, _, _, s1⟩ => s1.seq (SqL.of upd_same)) ?_ ?_
    · rintro i x H1 hi ⟨acc, e1, e2, s1⟩
      obtain ⟨z, hz, rfl⟩ := int_at hi
      have hi' := lt_of_at hz
      refine ⟨rfl, yes_then ?_⟩
      refine ⟨_, rfl, .inl ⟨_, rfl, _, rfl, _, e1, small100 (by rw [List.length_map]; omega), ?_⟩⟩
      refine ⟨acc ++ [if z < 0 then -z else z], by rw [upd_same, ← map_snoc], by rw [List.length_append, e2]; rfl, fun b' o e => ?_⟩
      rw [upd_ne (ne_of_none e hD)]
      exact s1 b' o e
    · rintro H1 ⟨acc, e1, e2, s1⟩
      rw [List.length_map] at e2
      have s2 : Same H H1 := s0.trans s1
      -- the stirring
      refine ⟨_, rfl, D, rfl, ⟨_, SqL.of e1⟩, for_list (K := K) (a := D) (xs := acc.map V.int) (fun i σ H2 => ∃ (st : Int) (v : Option V), σ = [some (.ref a), some (.int b), some (.int st), v, some (.ref D)] ∧ 0 ≤ st ∧ st < 2147483647 ∧ Same H1 H2)
        ⟨_, none, rfl, by omega, by omega, Same.refl _⟩ (fun i σ H2 _ ⟨_, _, _, _, _, s3⟩ => s3.seq (SqL.of e1)) ?_ ?_⟩
      · rintro i y σ H2 hi ⟨st, v, rfl, hs0, hs1, s3⟩
        obtain ⟨z, hz, rfl⟩ := int_at hi
        refine ⟨_, rfl, _, _, rfl, rfl, .inl ⟨by omega, by omega⟩, _, rfl, .inl ⟨_, rfl, _, _, rfl, rfl, (by show (0 : Int) < 2147483497; decide), _, _, rfl, rfl, _, _, rfl, rfl, .inl ⟨_, rfl, _, _, rfl, rfl, (by show (0 : Int) < 2147483647; decide), ?_⟩⟩⟩
        exact ⟨_, _, rfl, Int.emod_nonneg _ (by decide), Int.emod_lt_of_pos _ (by decide), s3⟩
      · rintro σ H2 ⟨st, v, rfl, hs0, hs1, s3⟩
        refine ⟨_, rfl, D, rfl, ⟨_, SqL.of (s3 _ _ e1)⟩, fun L hL => ?_⟩
        have nL : H L = none := (s2.trans s3).free hL
        refine lc_list (K := K) (a := D) (xs := acc.map V.int) (fun i H' => ∃ bs : List Int, H' L = some (.lst (bs.map V.int)) ∧ bs.length ≤ i ∧ Same H2 H')
          ⟨[], upd_same, Nat.le_refl _, same_new hL⟩ (fun i H' _ ⟨_, _, _, s4⟩ => (s3.trans s4).seq (SqL.of e1)) ?_ ?_
        · rintro i x H3 hi ⟨bs, f1, f2, s4⟩
          obtain ⟨z, hz, rfl⟩ := int_at hi
          have hi' := lt_of_at hz
          refine ⟨rfl, ?_⟩
          refine ⟨_, rfl, _, _, rfl, rfl, ⟨by decide, by decide, by decide⟩, _, _, rfl, rfl, _, rfl, ?_⟩
          refine ite2 (fun _ => ?_) (fun _ => ?_)
          · refine ⟨_, rfl, _, f1, small100 (by rw [List.length_map]; omega), ?_⟩
            refine ⟨bs ++ [z], by rw [upd_same, ← map_snoc], by rw [List.length_append]; show _ + 1 ≤ _; omega, fun b' o e => ?_⟩
            rw [upd_ne (ne_of_none e hL)]
            exact s4 b' o e
          · exact ⟨bs, f1, by omega, s4⟩
        · rintro H3 ⟨bs, f1, f2, s4⟩
          rw [List.length_map] at f2
          refine ⟨L, _, rfl, _, _, rfl, rfl, _, rfl, rfl, SqL.of f1, fun c hc => ?_⟩
          have s5 : Same H H3 := (s2.trans s3).trans s4
          refine ⟨_, rfl, (by show 2 ≤ sizeLine; decide), fun p hp => ?_⟩
          have ncp : c ≠ p := fun z => by
            rw [← z, upd_same] at hp
            cases hp
          have hpc : H3 p = none := (same_new hc).free hp
          refine k p c _ (s5.free hpc) (s5.free hc) ((s5.trans (same_new hc)).trans (same_new hp)) ⟨bs.reverse, st, upd_same, ?_, hs0, hs1, ?_⟩
          · rw [upd_ne ncp, upd_same, List.map_reverse]
          · rw [List.length_reverse]
            omega

/-! ### a draw -/
def spDraw : Sp := fun vs H Q _ => ∃ (p c : Addr) (n : Int), vs = [.ref p, .int n] ∧ DealAt H p c ∧ 1 ≤ n ∧ n < 1000000 ∧
  ∀ (r : Int) H', 0 ≤ r → r < n → DealAt H' p c → Same (hide p c H) (hide p c H') → Q (.int r) H'
abbrev nDraw : List Str := ["_law_deal_here", "_law_many", "_law_left"]
theorem scDraw : FnScope nDraw ["_law_deal_here", "_law_many"] (defScope sDraw) := ⟨rfl, rfl, rfl, by decide +kernel, rfl, by decide +kernel, by decide +kernel⟩
theorem ok_draw {f : Addr} {fd : FuncData} (F : Fun K "_law_draw" "_law_draw" sDraw f fd) (B : Bt mg) : FnOk P w K mg base CX0 1 f fd ["_law_deal_here", "_law_many"] spDraw := by
  refine F.ok scDraw (fun vs H Q E h => ?_) (fun cdv A outer s H vs Q E hr h => ?_)
  · obtain ⟨p, c, n, rfl, _⟩ := h
    rfl
  · obtain ⟨p, c, n, rfl, ⟨bs, st, hp, hc, hs0, hs1, hl⟩, h1, h2, k⟩ := h
    have hu := hr.units
    have hpc : p ≠ c := ne_of hp hc (by cases bs <;> (intro z; cases z))
    refine ⟨_, pss_cons (ps_while PassesOwn.never (PW.pt (pw_and (pt_cmpR (op_neD hu) (pe_ix ix_list (pv 0) pe_int (fun _ _ => rfl)) (pe_lst pa_nil) (nomark _))
          (pw_and1 (pt_cmpR op_eq (pe_ix ix_list (pe_ix ix_list (pv 0) pe_int (fun _ _ => rfl)) (pe_un un_neg pe_int) (fun _ _ => rfl)) pe_int (nomark _)))))
          (pss_one (ps_expr (pe_bm0 PySem.F.plainAttrs_list PySem.F.slot_list_pop PySem.F.type_list_pop mt_pop (pe_ix ix_list (pv 0) pe_int (fun _ _ => rfl))))))
      (pss_cons (ps_if (pt_cmpR (op_neD hu) (pe_ix ix_list (pv 0) pe_int (fun _ _ => rfl)) (pe_lst pa_nil) (nomark _))
          (pss_cons (ps_set (i := 2) scDraw.nd rfl (.inl rfl) (pe_bm0 PySem.F.plainAttrs_list PySem.F.slot_list_pop PySem.F.type_list_pop mt_pop (pe_ix ix_list (pv 0) pe_int (fun _ _ => rfl))))
          (pss_cons (ps_expr (pe_bm PySem.F.plainAttrs_list PySem.F.slot_list_append PySem.F.type_list_append mt_append (pe_ix ix_list (pv 0) pe_int (fun _ _ => rfl)) (pa_cons (pe_op op_fdivN (pv 2) (pv 1)) pa_nil)))
          (pss_one (ps_ret (pe_op op_mod (pe_callTy call_int1 (by rfl) B.int (by decide +kernel) (pa_cons (pv 2) pa_nil)) (pv 1)))))) pss_nil)
      (pss_cons (ps_asg (pe_op op_mod (pe_callTy call_int1 (by rfl) B.int (by decide +kernel) (pa_cons (pe_op op_add (pe_op op_mul (pe_ix ix_list (pv 0) pe_int (fun _ _ => rfl)) pe_int) pe_int) pa_nil)) pe_int) (pg_sub (pv 0) pe_int set_list))
      (pss_one (ps_ret (pe_op op_mod (pe_callTy call_int1 (by rfl) B.int (by decide +kernel) (pa_cons (pe_op op_fdiv (pe_ix ix_list (pv 0) pe_int (fun _ _ => rfl)) pe_int) pa_nil)) (pv 1)))))), ?_⟩
    -- the list of great numbers, while it ends in 0
    refine ⟨fun m σ H' => σ = [some (.ref p), some (.int n), none] ∧ ∃ bs : List Int, bs.length = m ∧ H' p = some (.lst [.ref c, .int st]) ∧ H' c = some (.lst (bs.map V.int)) ∧ bs.length ≤ 63 ∧ Same (hide p c H) (hide p c H'),
      ⟨_, rfl, bs, rfl, hp, hc, hl, Same.refl _⟩, ?_⟩
    rintro m σ H1 ⟨rfl, bs, hm, hp1, hc1, hl1, s1⟩
    refine ⟨_, rfl, p, _, _, _, rfl, rfl, SqL.of hp1, atI_nat (j := 0) rfl, (by show 0 ≤ sizeLine; decide), fun q hq => ?_⟩
    have npq : p ≠ q := ne_of_none hp1 hq
    have ncq : c ≠ q := ne_of_none hc1 hq
    have sq : Same H1 (upd H1 q (.lst [])) := same_new hq
    refine ⟨_, _, .lst ((sq.seq (SqL.of hc1))) (dpAll_ints bs), .lst (SqL.of upd_same) .nil, shaped_ints bs, shaped_nil, _, rfl, ?_⟩
    rw [eqv_nil]
    have hp2 : ∀ u, (upd H1 q u) p = some (.lst [.ref c, .int st]) := fun u => by rw [upd_ne npq]; exact hp1
    have hc2 : ∀ u, (upd H1 q u) c = some (.lst (bs.map V.int)) := fun u => by rw [upd_ne ncq]; exact hc1
    by_cases he : bs = []
    · -- no great number is left: the stirred number tells
      subst he
      refine iteF (iteF ?_)
      refine ⟨_, rfl, p, _, _, _, rfl, rfl, SqL.of (hp2 _), atI_nat (j := 0) rfl, (by show 0 ≤ sizeLine; decide), fun q2 hq2 => ?_⟩
      have npq2 : p ≠ q2 := ne_of_none (hp2 _) hq2
      have ncq2 : c ≠ q2 := ne_of_none (hc2 _) hq2
      have sq2 := same_new (o := .lst []) hq2
      refine ⟨_, _, .lst (sq2.seq (SqL.of (hc2 _))) .nil, .lst (SqL.of upd_same) .nil, shaped_nil, shaped_nil, _, rfl, ?_⟩
      rw [eqv_nil]
      refine iteF ?_
      have hp3 := sq2 _ _ (hp2 (.lst []))
      have hc3 := sq2 _ _ (hc2 (.lst []))
      refine ⟨_, rfl, p, _, _, _, rfl, rfl, SqL.of hp3, atI_nat (j := 1) rfl, _, _, rfl, rfl, .inl ⟨by omega, by omega⟩, _, _, rfl, rfl, .inl ⟨_, rfl, _, _, rfl, rfl, (by show (0 : Int) < 2147483647; decide), ?_⟩⟩
      refine ⟨_, rfl, p, _, _, 1, rfl, rfl, hp3, rfl, ?_⟩
      refine ⟨_, rfl, p, _, _, _, rfl, rfl, SqL.of upd_same, atI_nat (j := 1) rfl, _, _, rfl, rfl, ⟨by decide, by decide⟩, .inl ⟨_, rfl, _, rfl, _, _, rfl, rfl, (by show (0 : Int) < n; omega), ?_⟩⟩
      refine k _ _ (Int.emod_nonneg _ (by omega)) (Int.emod_lt_of_pos _ (by omega)) ⟨[], _, upd_same, ?_, Int.emod_nonneg _ (by decide), Int.emod_lt_of_pos _ (by decide), Nat.zero_le _⟩ ?_
      · rw [upd_ne (Ne.symm hpc)]
        exact hc3
      · rw [hide_updp]
        exact (s1.trans (hide_mono sq)).trans (hide_mono sq2)
    · have hne : bs.map PyData.int ≠ [] := fun z => he (List.map_eq_nil_iff.mp z)
      have hee : (bs.map PyData.int).isEmpty = false := by
        cases bs with
        | nil => exact absurd rfl he
        | cons _ _ => rfl
      rw [hee]
      refine iteT ?_
      have hnv : bs.map V.int ≠ [] := fun z => he (List.map_eq_nil_iff.mp z)
      obtain ⟨x, hx, hd, ha⟩ := last_at hnv
      obtain ⟨z, hz, rfl⟩ := int_at hx
      refine ⟨_, rfl, p, _, _, _, rfl, rfl, SqL.of (hp2 _), atI_nat (j := 0) rfl, _, rfl, c, _, _, _, rfl, rfl, SqL.of (hc2 _), ha, rfl, _, rfl, ?_⟩
      have hcq : ∀ H2 : Hp, hide p c (upd H2 c (.lst (bs.map V.int).dropLast)) = hide p c H2 := fun H2 => hide_updc
      have hdl : (bs.map V.int).dropLast = bs.dropLast.map V.int := List.map_dropLast.symm
      have hlen : bs.dropLast.length + 1 = bs.length := by
        rw [List.length_dropLast]
        have := List.length_pos_iff.mpr he
        omega
      refine ite2 (fun h0 => ?_) (fun h0 => ?_)
      · -- it ends in 0
        refine ⟨_, fun _ _ y => y, ?_⟩
        refine ⟨_, rfl, p, _, _, _, rfl, rfl, SqL.of (hp2 _), atI_nat (j := 0) rfl, .inl ⟨rfl, _, SqL.of (hc2 _)⟩, c, _, _, rfl, rfl, hc2 _, hx, ?_⟩
        refine ⟨bs.length - 1, by omega, rfl, bs.dropLast, by omega, ?_, ?_, by omega, ?_⟩
        · rw [upd_ne hpc]
          exact hp2 _
        · rw [upd_same, hdl]
        · rw [hide_updc]
          exact s1.trans (hide_mono sq)
      · refine ⟨_, rfl, p, _, _, _, rfl, rfl, SqL.of (hp2 _), atI_nat (j := 0) rfl, (by show 0 ≤ sizeLine; decide), fun q2 hq2 => ?_⟩
        have npq2 : p ≠ q2 := ne_of_none (hp2 _) hq2
        have ncq2 : c ≠ q2 := ne_of_none (hc2 _) hq2
        have sq2 := same_new (o := .lst []) hq2
        refine ⟨_, _, .lst (sq2.seq (SqL.of (hc2 _))) (dpAll_ints bs), .lst (SqL.of upd_same) .nil, shaped_ints bs, shaped_nil, _, rfl, ?_⟩
        rw [eqv_nil, hee]
        refine iteT ?_
        have hp3 := sq2 _ _ (hp2 (.lst []))
        have hc3 := sq2 _ _ (hc2 (.lst []))
        refine ⟨_, rfl, p, _, _, _, rfl, rfl, SqL.of hp3, atI_nat (j := 0) rfl, .inl ⟨rfl, _, SqL.of hc3⟩, c, _, _, rfl, rfl, hc3, hx, ?_⟩
        rw [hdl]
        have hp4 : ∀ u, (upd (upd (upd H1 q (.lst [])) q2 (.lst [])) c u) p = some (.lst [.ref c, .int st]) := fun u => by rw [upd_ne hpc]; exact hp3
        refine ⟨_, rfl, p, _, _, _, rfl, rfl, SqL.of (hp4 _), atI_nat (j := 0) rfl, .inl ⟨rfl, _, SqL.of upd_same⟩, _, rfl, _, rfl, _, _, rfl, rfl, ⟨by omega, by omega⟩, c, _, _, rfl, rfl, upd_same, small100 (by rw [List.length_map]; omega), ?_⟩
        rw [upd_upd, map_snoc]
        refine ⟨_, rfl, .inl ⟨_, rfl, _, rfl, _, _, rfl, rfl, (by show (0 : Int) < n; omega), ?_⟩⟩
        refine k _ _ (Int.emod_nonneg _ (by omega)) (Int.emod_lt_of_pos _ (by omega)) ⟨bs.dropLast ++ [z.fdiv n], st, hp4 _, upd_same, hs0, hs1, ?_⟩ ?_
        · rw [List.length_append]
          show _ + 1 ≤ 63
          omega
        · rw [hide_updc]
          exact (s1.trans (hide_mono sq)).trans (hide_mono sq2)

/-! ### a pick -/
def spPick (K : PySem.W.Frag) : Sp := fun vs H Q _ => ∃ (p c l : Addr) (xs : List V), vs = [.ref p, .ref l] ∧ DealAt H p c ∧ SqL K (hide p c H) l xs ∧ xs ≠ [] ∧ xs.length < 1000000 ∧
  ∀ (i : Nat) (v : V) H', xs[i]? = some v → DealAt H' p c → Same (hide p c H) (hide p c H') → Q v H'
abbrev nPick : List Str := ["_law_deal_here", "_law_some"]
theorem scPick : FnScope nPick ["_law_deal_here", "_law_some"] (defScope sPick) := ⟨rfl, rfl, rfl, by decide +kernel, rfl, by decide +kernel, by decide +kernel⟩
theorem ok_pick {f fD : Addr} {fd fdD : FuncData} (F : Fun K "_law_pick" "_law_pick" sPick f fd) (FD : Fun K "_law_draw" "_law_draw" sDraw fD fdD) (bD : Binds K fdD ["_law_deal_here", "_law_many"] []) (gD : mg "_law_draw" = some (.ref fD)) (B : Bt mg) :
    FnOk P w K mg base CX0 2 f fd ["_law_deal_here", "_law_some"] (spPick K) := by
  have GD : FnOk P w K mg base CX0 1 fD fdD ["_law_deal_here", "_law_many"] spDraw := ok_draw FD B
  refine F.ok scPick (fun vs H Q E h => ?_) (fun cdv A outer s H vs Q E hr h => ?_)
  · obtain ⟨p, c, l, xs, rfl, _⟩ := h
    rfl
  · obtain ⟨p, c, l, xs, rfl, D, hx, hne, hl, k⟩ := h
    refine ⟨_, pss_one (ps_ret (pe_ix ix_list (pv 1) (pe_call GD hr rfl gD FD.kp bD .nil pass0 (pa_cons (pv 0) (pa_cons (pe_callB call_len_seq (by rfl) B.len PySem.boot_len (pa_cons (pv 1) pa_nil)) pa_nil))) (fun _ _ => rfl))), ?_⟩
    have hpos := List.length_pos_iff.mpr hne
    refine ⟨_, rfl, _, rfl, _, rfl, l, xs, rfl, .inl (hide_le.seq hx), p, c, _, rfl, D, by omega, by omega, fun r H' h0 h1 D' s' => ?_⟩
    obtain ⟨j, rfl⟩ := Int.eq_ofNat_of_zero_le h0
    have hj : j < xs.length := by omega
    have hg : xs[j]? = some xs[j] := List.getElem?_eq_getElem hj
    exact ⟨l, xs, _, _, rfl, rfl, hide_le.seq (s'.seq hx), atI_nat hg, k j _ H' hg D' s'⟩

/-! ### a thing of any kind -/
def spThing (K : PySem.W.Frag) (n : Nat) : Sp := fun vs H Q _ => ∃ (p c : Addr), vs = [.ref p, .int n] ∧ DealAt H p c ∧
  ∀ (v : V) (d : PyData) H', Dp K (fresh H H') v d → Good n d → DealAt H' p c → Same (hide p c H) (hide p c H') → Q v H'
abbrev nThing : List Str := ["_law_deal_here", "_law_deep", "_law_some", "_law_inner", "_law_turn"]
theorem scThing : FnScope nThing ["_law_deal_here", "_law_deep"] (defScope sThing) := ⟨rfl, rfl, rfl, by decide +kernel, rfl, by decide +kernel, by decide +kernel⟩

/-- the first sixteen values, as they are laid -/
theorem deal_new {H : Hp} {p c q : Addr} {o : HO} (D : DealAt H p c) (hq : H q = none) : DealAt (upd H q o) p c := by
  obtain ⟨bs, st, hp, hc, r⟩ := D
  exact ⟨bs, st, same_new hq _ _ hp, same_new hq _ _ hc, r⟩
theorem DealAt.hp {H : Hp} {p c : Addr} (D : DealAt H p c) : H p ≠ none ∧ H c ≠ none := by
  obtain ⟨bs, st, hp, hc, r⟩ := D
  rw [hp, hc]
  exact ⟨fun z => (by cases z), fun z => (by cases z)⟩
theorem deal_upd {H : Hp} {p c q : Addr} {o : HO} (D : DealAt H p c) (n : q ≠ p ∧ q ≠ c) : DealAt (upd H q o) p c := by
  obtain ⟨bs, st, hp, hc, r⟩ := D
  exact ⟨bs, st, by rw [upd_ne (Ne.symm n.1)]; exact hp, by rw [upd_ne (Ne.symm n.2)]; exact hc, r⟩
theorem DealAt.ne {H : Hp} {p c q : Addr} (D : DealAt H p c) (hq : H q = none) : q ≠ p ∧ q ≠ c := by
  obtain ⟨bs, st, hp, hc, r⟩ := D
  exact ⟨(ne_of_none hp hq).symm, (ne_of_none hc hq).symm⟩

structure Txt0 (K : PySem.W.Frag) (mg : Str → Option Value) (fD fP fT : Addr) (fdD fdP fdT : FuncData) : Prop where
  B : Bt mg
  FD : Fun K "_law_draw" "_law_draw" sDraw fD fdD
  bD : Binds K fdD ["_law_deal_here", "_law_many"] []
  gD : mg "_law_draw" = some (.ref fD)
  FP : Fun K "_law_pick" "_law_pick" sPick fP fdP
  bP : Binds K fdP ["_law_deal_here", "_law_some"] []
  gP : mg "_law_pick" = some (.ref fP)
  FT : Fun K "_law_thing" "_law_thing" sThing fT fdT
  bT : Binds K fdT ["_law_deal_here", "_law_deep"] []
  gT : mg "_law_thing" = some (.ref fT)

def spPrev (K : PySem.W.Frag) : Nat → Sp
  | 0 => fun _ _ _ _ => False
  | n + 1 => spThing K n
theorem thing_step {fD fP fT : Addr} {fdD fdP fdT : FuncData} (T : Txt0 K mg fD fP fT fdD fdP fdT) (n : Nat) (hn : n ≤ 60) (GT : FnOk P w K mg base CX0 (n + 2) fT fdT ["_law_deal_here", "_law_deep"] (spPrev K n)) :
    FnOk P w K mg base CX0 ((n + 2) + 1) fT fdT ["_law_deal_here", "_law_deep"] (spThing K n) := by
  have GD : FnOk P w K mg base CX0 1 fD fdD ["_law_deal_here", "_law_many"] spDraw := ok_draw T.FD T.B
  have GP : FnOk P w K mg base CX0 2 fP fdP ["_law_deal_here", "_law_some"] (spPick K) := ok_pick T.FP T.FD T.bD T.gD T.B
  refine T.FT.ok scThing (fun vs H Q E h => ?_) (fun cdv A outer s H vs Q E hr h => ?_)
  · obtain ⟨p, c, rfl, _⟩ := h
    rfl
  · obtain ⟨p, c, rfl, D, k⟩ := h
    have hr1 : Room 1 _ := hr.mono (by omega)
    have hr2 : Room 2 _ := hr.mono (by omega)
    refine ⟨_, pss_cons (ps_set (i := 2) scThing.nd rfl (.inl rfl) (pe_lst (pa_cons pe_non (pa_cons pe_bl (pa_cons pe_bl (pa_cons pe_int (pa_cons pe_int (pa_cons (pe_op op_sub pe_int pe_int) (pa_cons pe_str (pa_cons pe_str pa_nil))))))))))
      (pss_cons (ps_set (i := 2) scThing.nd rfl (.inl rfl) (pe_op op_cat (pv 2) (pe_lst (pa_cons pe_str (pa_cons pe_str (pa_cons pe_str (pa_cons pe_str (pa_cons (pe_tup pa_nil) (pa_cons (pe_lst pa_nil)
          (pa_cons (pe_tup (pa_cons pe_str (pa_cons pe_str (pa_cons pe_int pa_nil)))) (pa_cons (pe_tup (pa_cons pe_str (pa_cons pe_str pa_nil))) pa_nil)))))))))))
      (pss_cons (ps_if (PW.pt (pw_and (pt_cmpR op_gt (pv 1) pe_int (nomark _)) (pw_and1 (pt_cmpR op_eq (pe_call GD hr1 rfl T.gD T.FD.kp T.bD .nil pass0 (pa_cons (pv 0) (pa_cons pe_int pa_nil))) pe_int (nomark _)))))
          (pss_cons (ps_setLc (i := 3) (own := [("_law_turn", 4)]) (g := gName 4) (tt := tYes) rfl scThing.nd rfl rfl (sw_true rfl rfl rfl (by decide +kernel))
              (pi_range1 rfl T.B.range (pa_cons (pe_call GD hr1 rfl T.gD T.FD.kp T.bD .nil pass0 (pa_cons (pv 0) (pa_cons pe_int pa_nil))) pa_nil)) (blkOk_by (N := nThing) (sc := defScope sThing) (by decide +kernel))
              (fun _ _ _ _ _ => pg_name (i := 4) scThing.nd rfl (.inl rfl)) (fun _ _ _ _ _ => pts_nil)
              (fun _ _ _ _ _ => pe_call GT hr rfl T.gT T.FT.kp T.bT .nil pass0 (pa_cons (pv 0) (pa_cons (pe_op op_sub (pv 1) pe_int) pa_nil))))
          (pss_one (ps_ret (pe_ifExp (pt_cmpR op_eq (pe_call GD hr1 rfl T.gD T.FD.kp T.bD .nil pass0 (pa_cons (pv 0) (pa_cons pe_int pa_nil))) pe_int (nomark _)) (pv 3)
              (pe_callTy call_tuple_of (by rfl) T.B.tuple (by decide +kernel) (pa_cons (pv 3) pa_nil)))))) pss_nil)
      (pss_one (ps_ret (pe_call GP hr2 rfl T.gP T.FP.kp T.bP .nil pass0 (pa_cons (pv 0) (pa_cons (pv 2) pa_nil))))))), ?_⟩
    -- the list of the values
    refine ⟨_, _, rfl, rfl, (by show 8 ≤ sizeLine; decide), fun l1 h1 => ?_⟩
    have s1 := same_new (o := HO.lst [.non, .bl true, .bl false, .int 0, .int 1, .int (0 - 2), .str "", .str "a"]) h1
    refine ⟨_, rfl, (by show 0 ≤ sizeLine; decide), fun t0 h2 => (⟨by show 0 ≤ sizeLine; decide, fun l0 h3 => ⟨by show 3 ≤ sizeLine; decide, fun t1 h4 => ⟨by show 2 ≤ sizeLine; decide, fun t2 h5 => ⟨by show 8 ≤ sizeLine; decide, fun l2 h6 => ?_⟩⟩⟩⟩)⟩
    have s2 := same_new (o := HO.tup []) h2
    have s3 := same_new (o := HO.lst []) h3
    have s4 := same_new (o := HO.tup [.str "a", .str "b", .int 0]) h4
    have s5 := same_new (o := HO.tup [.str "a", .str "b"]) h5
    have s6 := same_new (o := HO.lst [.str "go", .str "board", .str "A", .str "a\n", .ref t0, .ref l0, .ref t1, .ref t2]) h6
    refine ⟨l1, l2, _, _, rfl, rfl, (((((s2.trans s3).trans s4).trans s5).trans s6) _ _ upd_same), upd_same, (by show 16 ≤ sizeLine; decide), fun l3 h7 => ?_⟩
    have s7 := same_new (o := HO.lst ([.non, .bl true, .bl false, .int 0, .int 1, .int (0 - 2), .str "", .str "a"] ++ [.str "go", .str "board", .str "A", .str "a\n", .ref t0, .ref l0, .ref t1, .ref t2])) h7
    have e0 := (((s3.trans s4).trans s5).trans s6).trans s7 _ _ upd_same
    have e1 := ((s4.trans s5).trans s6).trans s7 _ _ upd_same
    have e2 := (s5.trans s6).trans s7 _ _ upd_same
    have e3 := s6.trans s7 _ _ upd_same
    have sA := (((((s1.trans s2).trans s3).trans s4).trans s5).trans s6).trans s7
    obtain ⟨G, ⟨sG, gt0, gl0, gt1, gt2, gl3⟩, hG⟩ := named (F := fun G => Same H G ∧ G t0 = some (.tup []) ∧ G l0 = some (.lst []) ∧ G t1 = some (.tup [.str "a", .str "b", .int 0]) ∧ G t2 = some (.tup [.str "a", .str "b"]) ∧
      G l3 = some (.lst ([.non, .bl true, .bl false, .int 0, .int 1, .int (0 - 2), .str "", .str "a"] ++ [.str "go", .str "board", .str "A", .str "a\n", .ref t0, .ref l0, .ref t1, .ref t2]))) ⟨sA, e0, e1, e2, e3, upd_same⟩
    rw [hG]
    have dG : DealAt G p c := by
      obtain ⟨bs, st, hp, hc, r⟩ := D
      exact ⟨bs, st, sG _ _ hp, sG _ _ hc, r⟩
    have n0 := s1.free h2
    have n1 := (s1.trans s2).free h3
    have n2 := ((s1.trans s2).trans s3).free h4
    have n3 := (((s1.trans s2).trans s3).trans s4).free h5
    have n4 : l3 ≠ p ∧ l3 ≠ c := D.ne ((((((s1.trans s2).trans s3).trans s4).trans s5).trans s6).free h7)
    clear hG sA e0 e1 e2 e3 s1 s2 s3 s4 s5 s6 s7 h1 h2 h3 h4 h5 h6 h7
    have dp : DpAll K (fresh H G) ([.non, .bl true, .bl false, .int 0, .int 1, .int (0 - 2), .str "", .str "a"] ++ [.str "go", .str "board", .str "A", .str "a\n", .ref t0, .ref l0, .ref t1, .ref t2]) seeds := by
      have f0 : fresh H G t0 = some (.tup []) := by rw [fresh_in n0]; exact gt0
      have f1 : fresh H G l0 = some (.lst []) := by rw [fresh_in n1]; exact gl0
      have f2 : fresh H G t1 = some (.tup [.str "a", .str "b", .int 0]) := by rw [fresh_in n2]; exact gt1
      have f3 : fresh H G t2 = some (.tup [.str "a", .str "b"]) := by rw [fresh_in n3]; exact gt2
      exact .cons .non (.cons (.bl _) (.cons (.bl _) (.cons (.int _) (.cons (.int _) (.cons (.int _) (.cons (.str _) (.cons (.str _) (.cons (.str _) (.cons (.str _) (.cons (.str _) (.cons (.str _)
        (.cons (.tup (SqT.of f0) .nil) (.cons (.lst (SqL.of f1) .nil) (.cons (.tup (SqT.of f2) (.cons (.str _) (.cons (.str _) (.cons (.int _) .nil)))) (.cons (.tup (SqT.of f3) (.cons (.str _) (.cons (.str _) .nil))) .nil)))))))))))))))
    have f4 : hide p c G l3 = G l3 := hide_ne n4.1 n4.2
    rw [← f4] at gl3
    have sh : Same (hide p c H) (hide p c G) := hide_mono sG
    obtain ⟨dp1, dc1⟩ := D.hp
    clear n0 n1 n2 n3 n4 f4 gt0 gl0 gt1 gt2
    -- if it may go deeper and a draw says so
    refine ⟨_, rfl, _, _, rfl, rfl, _, rfl, ?_⟩
    by_cases h0 : (0 : Int) < (n : Int)
    · rw [decide_eq_true h0]
      refine iteT ?_
      refine ⟨_, rfl, p, c, 3, rfl, dG, by decide, by decide, fun r G1 _ _ D1 s1 => ⟨rfl, _, rfl, ?_⟩⟩
      refine ite2 (fun _ => ?_) (fun _ => ?_)
      · -- a list of things
        refine ⟨_, rfl, p, c, 4, rfl, D1, by decide, by decide, fun m G2 m0 m1 D2 s2 => ⟨m, rfl, by omega, by omega, fun L hL => ?_⟩⟩
        obtain ⟨n', rfl⟩ : ∃ n', n = n' + 1 := ⟨n - 1, by omega⟩
        have nL := D2.ne hL
        have hs2 : Same (hide p c H) (hide p c G2) := (sh.trans s1).trans s2
        have kH : Kept H G2 := kept_of D2.hp.1 D2.hp.2 hs2
        have hLn : H L = none := by
          cases q : H L with
          | none => rfl
          | some u => exact absurd hL (kH L (by rw [q]; intro z; cases z))
        refine lc_range (lo := 0) (n := m.toNat) (fun i H' => DealAt H' p c ∧ Same (hide p c G2) (hide p c (hide L L H')) ∧ ∃ acc ds, H' L = some (.lst acc) ∧ acc.length = i ∧ DpAll K (hide L L (fresh H H')) acc ds ∧ ∀ d ∈ ds, Good n' d)
          ⟨deal_new D2 hL, hide_new hL, [], [], upd_same, rfl, .nil, fun _ z => absurd z List.not_mem_nil⟩ ?_ ?_
        · rintro i H1 hi ⟨D3, s3, acc, ds, e1, e2, e3, e4⟩
          refine ⟨rfl, yes_then ?_⟩
          refine ⟨_, rfl, _, rfl, _, _, rfl, rfl, p, c, (by show [V.ref p, V.int ((n' : Int) + 1 - 1)] = _; rw [Int.add_sub_cancel]), D3, fun v d H4 hv hg D4 s4 => ?_⟩
          have e1' : H4 L = some (.lst acc) := hide_le _ _ (s4 L _ (by rw [hide_ne nL.1 nL.2]; exact e1))
          have hs3 : Same (hide p c H) (hide p c H1) := hs2.trans (s3.trans hide_one)
          have k3 : Kept H H1 := kept_of D3.hp.1 D3.hp.2 hs3
          have hL3 : H1 L ≠ none := by
            rw [e1]
            intro z
            cases z
          refine ⟨acc, e1', small100 (by omega), deal_upd D4 nL, ?_, acc ++ [v], ds ++ [d], upd_same, by rw [List.length_append, e2]; rfl, ?_, ?_⟩
          · rw [hide_upd1]
            exact s3.trans (hide_two s4)
          · rw [fresh_updL]
            exact dpAll_snoc (dp_mono (fresh_sub k3 hL3) _ _ hv) (dpAll_mono (hide_mono (fresh_step dp1 dc1 s4)) _ _ e3)
          · intro x hx
            rcases List.mem_append.mp hx with hx | hx
            · exact e4 x hx
            · rw [List.mem_singleton.mp hx]
              exact hg
        · rintro H1 ⟨D3, s3, acc, ds, e1, e2, e3, e4⟩
          have hs3 : Same (hide p c H) (hide p c H1) := hs2.trans (s3.trans hide_one)
          have h3 : ds.length ≤ 3 := by
            rw [← dpAll_len e3, e2]
            omega
          refine ⟨_, rfl, p, c, 2, rfl, D3, by decide, by decide, fun b H2 _ _ D4 s4 => ⟨rfl, _, rfl, ?_⟩⟩
          have e1' : H2 L = some (.lst acc) := hide_le _ _ (s4 L _ (by rw [hide_ne nL.1 nL.2]; exact e1))
          have e5 : DpAll K (fresh H H2) acc ds := dpAll_mono (Same.trans hide_le (fresh_step dp1 dc1 s4)) _ _ e3
          refine ite2 (fun _ => ?_) (fun _ => ?_)
          · refine ⟨_, rfl, k _ (.list ds) _ (.lst (SqL.of (by rw [fresh_in hLn]; exact e1')) e5) (good_list e4 h3) D4 (hs3.trans s4)⟩
          · refine ⟨_, rfl, L, acc, rfl, .inl ⟨SqL.of e1', fun t ht => ?_⟩⟩
            have hs4 := hs3.trans s4
            have k4 : Kept H H2 := kept_of D4.hp.1 D4.hp.2 hs4
            have htn : H t = none := by
              cases q : H t with
              | none => rfl
              | some u => exact absurd ht (k4 t (by rw [q]; intro z; cases z))
            exact k _ (.tuple ds) _ (.tup (SqT.of (by rw [fresh_in htn]; exact upd_same)) (dpAll_mono (fresh_mono (same_new ht)) _ _ e5)) (good_tuple e4 h3) (deal_new D4 ht) (hs4.trans (hide_mono (same_new ht)))
      · -- one of the values
        refine ⟨_, rfl, _, rfl, p, c, l3, _, rfl, D1, SqL.of (s1 _ _ gl3), (fun z => by cases z), (by show 16 < 1000000; decide), fun i v H' hi D' s' => ?_⟩
        obtain ⟨d, hd, hdp⟩ := dpAll_at dp hi
        exact k v d H' (dp_mono (fresh_step dp1 dc1 (s1.trans s')) _ _ hdp) ((good_seed d (List.mem_of_getElem? hd)).mono (Nat.zero_le _)) D' ((sh.trans s1).trans s')
    · rw [decide_eq_false h0]
      refine iteF ?_
      refine ⟨_, rfl, _, rfl, p, c, l3, _, rfl, dG, SqL.of gl3, (fun z => by cases z), (by show 16 < 1000000; decide), fun i v H' hi D' s' => ?_⟩
      obtain ⟨d, hd, hdp⟩ := dpAll_at dp hi
      exact k v d H' (dp_mono (fresh_step dp1 dc1 s') _ _ hdp) ((good_seed d (List.mem_of_getElem? hd)).mono (Nat.zero_le _)) D' (sh.trans s')
theorem ok_thing {fD fP fT : Addr} {fdD fdP fdT : FuncData} (T : Txt0 K mg fD fP fT fdD fdP fdT) : ∀ n : Nat, n ≤ 60 → FnOk P w K mg base CX0 (n + 3) fT fdT ["_law_deal_here", "_law_deep"] (spThing K n)
  | 0, h => thing_step T 0 h ⟨fun _ _ _ _ z => z.elim, fun _ _ _ _ _ _ _ _ _ _ _ _ _ z => z.elim⟩
  | n + 1, h => thing_step T (n + 1) h (ok_thing T n (by omega))
end
end Vf

set_option Elab.async false
set_option linter.all false
set_option maxRecDepth 100000
set_option maxHeartbeats 4000000
/-! exceptions of one's own, held as values: over ValueError, KeyError, IndexError; made by position or by keyword -/
namespace Vf
open PySem PySem.Calls PySem.HandSPX

section
variable {prog : Program} {w : World} {A : Around} {E : Value → Shared → Prop} {R : Result → Shared → Prop} {h : Heap} {g : Array GenState} {d : Drawn} {t : Nat} {os : OsState}
variable {nm q : Str} {C N : Addr} {bs bm bmB : List Value} {hdct : Bool} {sn : List Str} {sub : List Value} {ab : Bool} {col : Option Bool} {dd : Option Addr} {k0 k1 k2 k3 k5 : Option Value} {B newId initId : String}

/-- what the chain of a class must hold so that its maker makes it -/
structure Chain (B : String) (bm : List Value) : Prop where
  hB : bm.contains (.type B) = true
  hA : bm.contains (.type "AttributeError") = false
  hN : bm.contains (.type "NameError") = false

theorem xk_check (F : ExcBaseFacts B newId initId bmB) (cb : Chain B bm) {rest : List Value} {kw : List (Str × Value)} {Q : Unit → Shared → Prop}
    (hC : h.get? C = some (excClassObj nm q C N bs bm hdct sn sub ab col dd k0 k1 k2 k3 k5 newId)) (hq : Q () ⟨h, g, d, t, os⟩) :
    wpAny (model prog w) A (checkBuiltinCall newId ⟨.ref C :: rest, kw⟩) Q E ⟨h, g, d, t, os⟩ := by
  have c1 : (Value.ref C :: bm).contains (.type B) = true := by rw [List.contains_cons, cb.hB, Bool.or_true]
  have c2 := F.noStar
  simp only [checkBuiltinCall, F.newKind, F.newSplit, F.newRow]
  repeat
    first
      | refine wpAny_loadPart_at hC ?_
      | (refine wpAny_isSubtype_exc hC ?_; rw [c1])
      | refine wpAny_staticBase_exc hC ?_
      | refine wpAny_madeBy_exc hC ?_
      | simp only [bne_self_eq_false, Bool.false_eq_true, if_false]
      | wp_step
  all_goals exact hq

theorem xk_new (F : ExcBaseFacts B newId initId bmB) (cb : Chain B bm) {rest : List Value} {kw : List (Str × Value)}
    (hC : h.get? C = some (excClassObj nm q C N bs bm hdct sn sub ab col dd k0 k1 k2 k3 k5 newId)) (hr : rest.length ≤ sizeLine)
    (hq : R (.ok (.ret (.ref (h.objs.size + 1)))) ⟨(h.push (W.kdv_tup rest)).push (excO C h.objs.size), g, d, t, os⟩) :
    codeAny (model prog w) A (.builtin newId ⟨.ref C :: rest, kw⟩) R ⟨h, g, d, t, os⟩ := by
  have c0 := F.ends
  have c1 : (Value.ref C :: bm).contains (.type B) = true := by rw [List.contains_cons, cb.hB, Bool.or_true]
  have c2 : (Value.ref C :: bm).contains (.type "AttributeError") = false := by
    rw [List.contains_cons, cb.hA]
    rfl
  have c3 : (Value.ref C :: bm).contains (.type "NameError") = false := by
    rw [List.contains_cons, cb.hN]
    rfl
  refine codeAny_builtinAt F.entry ?_
  unfold Builtin.«BaseException.__new__»
  refine wpAt_bind ?_
  show wpAt _ _ _ (stack >>= _) _ _ _
  refine wpAt_bind (wpAt_stack fun p below => wpAt_of_wpAny ?_)
  wp_walk
  refine wpAt_of_wpAny ?_
  rw [F.owner]
  repeat
    first
      | with_reducible refine wpAny_madeHere_exc F.canon hC ?_
      | with_reducible refine wpAny_loadPart_at hC ?_
      | (with_reducible refine wpAny_isSubtype_exc hC ?_; first | rw [c1] | rw [c2] | rw [c3])
      | wp_step
  show R _ _
  rw [Heap.size_push]
  exact hq

theorem xk_make (F : ExcBaseFacts B newId initId bmB) (cb : Chain B bm) {rest : List Value} {kw : List (Str × Value)} {fI : Addr} {Q : Fin → Shared → Prop}
    (hC : h.get? C = some (excClassObj nm q C N bs bm hdct sn sub ab col dd k0 k1 k2 k3 k5 newId))
    (hi : W.Looks (model prog w) h (typeLookup (.ref C) "__init__") (some (.ref fI))) (hb : ∀ self, W.Looks (model prog w) h (bindSpecial (.ref fI) self) (.ref fI, [self])) (hr : rest.length ≤ sizeLine)
    (hq : codeAny (model prog w) A (.call (.ref fI) ⟨.ref (h.objs.size + 1) :: rest, kw⟩)
      (fun r s' => match r with | .ok (.ret v) => v = .none ∧ Q (.done (.ret (.ref (h.objs.size + 1)))) s' | .ok _ => False | .error e => E e s')
      ⟨(h.push (W.kdv_tup rest)).push (excO C h.objs.size), g, d, t, os⟩) :
    wpAny (model prog w) A (Builtin.«type.__call__» ⟨.ref C :: rest, kw⟩) Q E ⟨h, g, d, t, os⟩ := by
  repeat
    first
      | with_reducible refine wpAny_loadPart_at hC ?_
      | with_reducible refine wpAny_madeBy_exc hC ?_
      | wp_step
  refine codeAny_call_builtin_code (Code.quiet_builtin _ F.quiet) (xk_check F cb hC ?_)
  refine xk_new F cb hC hr ?_
  show wpAny _ _ _ _ _ _
  have kk : ∀ b o, h.get? b = some o → ((h.push (W.kdv_tup rest)).push (excO C h.objs.size)).get? b = some o := fun b o e => Heap.get?_push_of_some _ (Heap.get?_push_of_some _ e)
  have hC2 := kk _ _ hC
  have hnew : ((h.push (W.kdv_tup rest)).push (excO C h.objs.size)).get? (h.objs.size + 1) = some (excO C h.objs.size) := by heap_get
  have cC : (Value.ref C :: bm).contains (.ref C) = true := by simp
  have i1 := hi.keeps kk
  have b1 := (hb (.ref (h.objs.size + 1))).keeps kk
  unfold isInstance
  repeat
    first
      | with_reducible refine wpAny_loadPart_at hnew ?_
      | (with_reducible refine wpAny_isSubtype_exc hC2 ?_; rw [cC])
      | wp_step
  show wpAny _ _ (typeLookup (.ref C) _) _ _ _
  refine i1.at ?_
  refine wpAny_holding (wpAny_bind (b1.at ?_))
  refine wpAny_bind (wpAny_call (codeAny_mono hq fun r s' z => ?_))
  rcases r with e | (v | _ | _ | _) <;> first | exact z | exact z.elim | skip
  obtain ⟨rfl, z⟩ := z
  first
    | exact wpAny_pure (wpAny_pure z)
    | (wp_walk; exact z)

theorem xk_call (F : ExcBaseFacts B newId initId bmB) (cb : Chain B bm) {rest : List Value} {kw : List (Str × Value)} {fI : Addr}
    (hC : h.get? C = some (excClassObj nm q C N bs bm hdct sn sub ab col dd k0 k1 k2 k3 k5 newId))
    (hi : W.Looks (model prog w) h (typeLookup (.ref C) "__init__") (some (.ref fI))) (hb : ∀ self, W.Looks (model prog w) h (bindSpecial (.ref fI) self) (.ref fI, [self])) (hr : rest.length ≤ sizeLine)
    (hq : codeAny (model prog w) (A.under (.builtin "type.__call__" ⟨.ref C :: rest, kw⟩)) (.call (.ref fI) ⟨.ref (h.objs.size + 1) :: rest, kw⟩) (W.InitBack (h.objs.size + 1) R)
      ⟨(h.push (W.kdv_tup rest)).push (excO C h.objs.size), g, d, t, os⟩) :
    codeAny (model prog w) A (.call (.ref C) ⟨rest, kw⟩) R ⟨h, g, d, t, os⟩ := by
  have f1 := tc_lookup
  have f2 := tc_bind (.ref C)
  have f3 := tc_sub
  have hTy : (⟨h, g, d, t, os⟩ : Shared).TypeIs (.ref C) "type" := ⟨_, hC, rfl⟩
  refine codeAny_of_tree ?_
  show wpAny _ _ (callAny (.ref C) _) _ _ _
  repeat (any_goals (first | assumption | with_reducible refine wpAny_loadPart_at hC ?_ | wp_step))
  refine ⟨rfl, ?_⟩
  have chk : ∀ {Q : Unit → Shared → Prop} {E : Value → Shared → Prop} {A : Around}, Q () ⟨h, g, d, t, os⟩ → wpAny (model prog w) A (checkBuiltinCall "type.__call__" ⟨.ref C :: rest, kw⟩) Q E ⟨h, g, d, t, os⟩ := by
    intro Q E A z
    simp only [checkBuiltinCall, tc_kind, tc_split]
    repeat (any_goals (first | assumption | with_reducible refine wpAny_loadPart_at hC ?_ | with_reducible refine wpAny_onRaise ?_ | with_reducible refine wpAny_map ?_ | wp_step))
  refine codeAny_call_builtin_at (Code.quiet_builtin _ (by decide +kernel)) entry_typeCall (chk (xk_make F cb hC hi hb hr ?_))
  refine codeAny_mono hq fun r s' z => ?_
  rcases r with e | (v | _ | _ | _) <;> exact z
end
end Vf

set_option Elab.async false
set_option linter.all false
set_option maxRecDepth 100000
set_option maxHeartbeats 4000000
/-! the rules over the layer: such an exception is made, its field stored and read, isinstance asked of it -/
namespace Vf
open PySem PySem.Spec PySem.Calls PyProof.Rows L2

/-! ### isinstance -/
section
variable {prog : Program} {w : World} {A : Around} {E : Value → Shared → Prop} {s : Shared} {K : PySem.W.Frag} {x D : Addr} {ox : Obj} {od : Option Obj}
theorem xk_find {name : Str} {a g : Value} (hc : (PySem.W.clsIn K D).isSome = true) (ha : PySem.W.findIn K (.ref D) name = some (some a)) (hg : PySem.W.specialIn K a "__get__" = some (some g)) (ht : PySem.W.takesIn K a = some true) :
    PySem.W.findObj K D od name = some (.bind g a) := by
  obtain ⟨cd, hc⟩ := Option.isSome_iff_exists.mp hc
  unfold PySem.W.findObj
  rw [hc, Option.bind_some, ha, Option.bind_some]
  simp [hg, ht]
open PySem.W in
theorem xk_class {Q : Option Value → Shared → Prop} (T : ExcC K D) (X : K.In s.heap) (I : PySem.W.InstAt s.heap x ox D od) (h : Q (some (.ref D)) { s with toks := s.toks + 1 }) :
    wpAny (model prog w) A (getAttr? (.ref x) "__class__") Q E s := by
  have hf : findObj K D od "__class__" = some (.bind (.builtin "getset_descriptor.__get__") (.builtin "object.__class__")) := xk_find (by obtain ⟨cd, hc, _⟩ := any_some T.hd; rw [hc]; rfl) T.ha T.hn T.ht
  obtain ⟨hp, g, d, t, os⟩ := s
  have l0 := I.type (M := model prog w)
  have l1 := looks_findIn (M := model prog w) X T.hg
  have l2 := looks_findIn (M := model prog w) X T.hk
  have l3 := looks_find (M := model prog w) X I hf
  have sub : Looks (model prog w) hp (isInstance (.ref x) (.type "BaseException")) true := l0.andThen (looks_subIn X T.hs)
  have z0 : (false && onTheHeap (Value.builtin "BaseException.__getattribute__")) = false := rfl
  have z2 : (Value.builtin "BaseException.__getattribute__" == Value.builtin "object.__getattribute__") = false := by decide +kernel
  have z1 : (onTheHeap (Value.ref D) && Value.builtin "BaseException.__getattribute__" == Value.builtin "object.__getattribute__") = false := by
    rw [z2]
    rfl
  unfold getAttr? getAttrBy? getAttrBy
  refine wpAny_bind (wpAny_mkText (wpAny_bind (wpAny_attempt (wpAny_holding (wpAny_bind (l0.at (wpAny_bind (l1.at ?_))))))))
  show wpAny _ _ (if (onTheHeap (Value.ref D) && Value.builtin "BaseException.__getattribute__" == Value.builtin "object.__getattribute__") = true then _ else _) _ _ _
  rw [z1, if_neg Bool.false_ne_true]
  unfold getAttrByItsOwn hookBefore
  refine wpAny_bind ?_
  rw [if_pos (show onTheHeap (Value.ref D) = true from rfl)]
  refine l2.at ?_
  refine wpAny_bind (wpAny_attempt (wpAny_holding ?_))
  unfold callGetattribute
  rw [z0, if_neg Bool.false_ne_true]
  unfold boundAndCalled
  rw [PySem.F.excAttr_ValueError.ga.bind (.ref x)]
  refine wpAny_bind (wpAny_pure ?_)
  show wpAny _ _ (call (.builtin "BaseException.__getattribute__") [.ref x, .str "__class__" t]) _ _ _
  refine wpAny_call (codeAny_call_builtin PySem.F.excAttr_ValueError.ga.plain PySem.F.entry_bexc_ga ?_)
  refine @check_slot (model prog w) _ _ ⟨hp, g, d, t + 1, os⟩ "BaseException.__getattribute__" "BaseException" "__getattribute__" (.ref x) [.str "__class__" t] [] _ (by decide +kernel) (by decide +kernel) sub (PySem.F.args_bexc_ga (.ref x) (.str "__class__" t)) ?_
  unfold Builtin.«object.__getattribute__»
  refine wpAny_bind (wpAny_of_eq (a := ((Value.ref x : Value), [Value.str "__class__" t])) (by first | rfl | (simp only [slotArgs]; rfl)) ?_)
  refine wpAny_bind (wpAny_pure (wpAny_bind (l0.at (wpAny_bind (l3.at ?_)))))
  show wpAny _ _ (holding [Value.builtin "object.__class__"] (call (.builtin "getset_descriptor.__get__") [.builtin "object.__class__", .ref x, .ref D]) >>= ret) _ _ _
  refine wpAny_bind (wpAny_holding (wpAny_call (class_get (s := ⟨hp, g, d, t + 1, os⟩) (ox := ox) (od := od) X I T.hm ?_)))
  refine wpAny_pure ?_
  show wpAny _ _ (handedOut (.ref D)) _ _ _
  rw [handedOut_of (v := .ref D) rfl]
  first
    | exact wpAny_pure (wpAny_pure h)
    | exact wpAny_pure h
    | exact wpAny_pure (wpAny_bind (wpAny_pure (wpAny_pure h)))
open PySem.W in
theorem xk_kit (T : ExcC K D) : KitX K (.ref x) (.ref D) (fun h => ∃ ox od, PySem.W.InstAt h x ox D od) where
  ty := fun _ _ _ ⟨_, _, I⟩ => I.type
  it := fun _ _ X _ => by
    obtain ⟨cdD, hcD, _⟩ := any_some T.hd
    unfold clsIn at hcD
    split at hcD
    · rename_i ho
      intro A' Q' E' s' k q
      unfold isType loadHead
      exact wpAny_bind (wpAny_loadPart (k _ _ (X _ _ ho)) (wpAny_pure q))
    · cases hcD
  ne := fun h tp dd its n sl X htp => by
    obtain ⟨cdD, hcD, _⟩ := any_some T.hd
    refine Bool.eq_false_iff.mpr fun q => ?_
    have e : D = tp := Value.ref.inj (beq_iff_eq.mp q)
    subst e
    unfold clsIn at hcD
    split at hcD
    · rename_i ho
      have z := (X _ _ ho).symm.trans htp
      cases z
    · cases hcD
  ca := fun X ⟨_, _, I⟩ k => xk_class T X I k
end

/-- at a: an exception of the class at C (whatever it keeps) -/
def XAt (H : Hp) (a C : Addr) : Prop := (∃ d dx fs, d = some dx ∧ H a = some (exo a C d) ∧ H dx = some (exd dx fs)) ∨ H a = some (ExO (.ref C) a)
theorem XAt.mono {H H' : Hp} {a C : Addr} (s : Same H H') (x : XAt H a C) : XAt H' a C := by
  rcases x with ⟨d, dx, fs, e, h1, h2⟩ | h
  · exact .inl ⟨d, dx, fs, e, s _ _ h1, s _ _ h2⟩
  · exact .inr (s _ _ h)
section
variable {X : Cx} {pins : List (Addr × Obj)} {σ : L2.St} {H : Hp} {s : Shared} {a C dx : Addr} {fs : List (Str × V)}
theorem xat_inst (I : Inv X pins σ H s) (h : XAt H a C) : ∃ ox od, PySem.W.InstAt s.heap a ox C od := by
  rcases h with ⟨d, dx, fs, rfl, h1, h2⟩ | h
  · obtain ⟨t1, ho⟩ := exo_at I.hok h1
    obtain ⟨mA, ⟨o, es, ep, hd, _⟩, _⟩ := exd_at I.hok h2
    exact ⟨_, some o, ho, rfl, rfl, hd⟩
  · obtain ⟨⟨oe, vs, ho, hz, hd, _⟩, _, _⟩ := I.hok a _ h
    obtain ⟨oc, od, oda, osl⟩ := oe
    obtain ⟨z1, z2⟩ := hz
    dsimp only at z1 z2 hd
    subst z1 z2 hd
    exact ⟨_, none, ho, rfl, rfl, trivial⟩
/-- isinstance(e, c) of such an exception -/
def rIsX (K : PySem.W.Frag) : List V → Hp → VK → Prop := fun xs H Q => ∃ (a C : Addr) (c : V) (cv : Value) (b : Bool), xs = [.ref a, c] ∧ XAt H a C ∧ ExcC K C ∧ ClsV c cv ∧ PySem.W.kitOne K (.ref C) cv = some b ∧ Q (.bl b) H
theorem call_isX : CallR X (.builtin "isinstance") (rIsX X.K) := by
  intro pins s σ H xs us Q I r h
  obtain ⟨a, C, c, cv, b, rfl, xa, T, k, e, q⟩ := h
  obtain ⟨u1, u2, rfl, r1, r2⟩ := vals2 r
  have e2 := k.eq r2
  subst e2
  cases r1
  exact PySem.W.kia_one (xk_kit T) I.kIn (xat_inst I xa) e (fun z => nomatch z) fun tk => ⟨.bl b, H, I.tok tk, rfl, q⟩
end

/-! ### the class, as the written part tells it -/
structure XC (K : PySem.W.Frag) (mg : Str → Option Value) (x : Str) (C fI : Addr) (f : Str) : Prop where
  gC : mg x = some (.ref C)
  cls : ∃ (B newId initId : String) (bmB : List Value) (nm q : Str) (N : Addr) (bs bm : List Value) (sn : List Str) (sub : List Value) (ab : Bool) (col : Option Bool) (dd : Option Addr) (k0 k1 k2 k3 k5 : Option Value),
    ExcBaseFacts B newId initId bmB ∧ Chain B bm ∧ K.lookup C = some (excClassObj nm q C N bs bm true sn sub ab col dd k0 k1 k2 k3 k5 newId) ∧ bm.contains (.type "object") = true ∧ ∀ self, refuseLoop self "__setattr__" bm = pure ()
  sa : PySem.W.findIn K (.ref C) "__setattr__" = some (some (.builtin "object.__setattr__"))
  no : PySem.W.findIn K (.ref C) f = some none
  kC : PySem.W.keepIn K (.ref C) = true
  iC : PySem.W.findIn K (.ref C) "__init__" = some (some (.ref fI))
  tI : PySem.W.typeIn K (.ref fI) = some (.type "function")
  ex : ExcC K C

section
variable {prog : Program} {w : World} {A : Around} {E : Value → Shared → Prop} {R : Result → Shared → Prop} {hp : Heap} {g : Array GenState} {d : Drawn} {t : Nat} {os : OsState}
open PySem.W PySem.HandSPX Builtin Builtin.ObjectAttr in
theorem xk_store {K : PySem.W.Frag} {name : Str} {tk : Tok} {v : Value} {x C : Addr} {fv : Array Value} {cd : ClassData} (X : K.In hp) (hx : hp.get? x = some { cls := .ref C, data := .fields fv }) (hcd : clsIn K C = some cd) (ne : cd.mro.isEmpty = false)
    (hob : cd.mro.contains (.type "object") = true) (hpass : refuseLoop (.ref x) "__setattr__" cd.mro = pure ()) (hh : cd.hasDict = true) (ha : findIn K (.ref C) name = some none)
    (hq : ∀ h' tk' dx, (∀ b o, b ≠ x → hp.get? b = some o → h'.get? b = some o) → hp.objs.size ≤ dx → dx ≠ x → h'.get? x = some { cls := .ref C, dict := some dx, data := .fields fv } →
      h'.Ns1 dx (fun y => if y = name then some v else none) → R (.ok (.ret .none)) ⟨h', g, d, tk', os⟩) :
    codeAny (model prog w) A (.call (.builtin "object.__setattr__") ⟨[.ref x, .str name tk, v], []⟩) R ⟨hp, g, d, t, os⟩ := by
  have J : InstAt hp x { cls := .ref C, data := .fields fv } C none := ⟨hx, rfl, rfl, trivial⟩
  have so := F.store_object
  have hxs : x ≠ hp.objs.size := Nat.ne_of_lt (Heap.lt_size hx)
  have sub : Looks (model prog w) hp (isInstance (.ref x) (.type "object")) true := J.type.andThen (looks_mroIn X (by unfold mroIn; rw [hcd, Option.bind_some, if_neg (by rw [ne]; decide), hob]))
  refine codeAny_call_builtin so.slot.plain so.entry (@check_slot (model prog w) _ _ ⟨hp, g, d, t, os⟩ "object.__setattr__" "object" "__setattr__" (.ref x) [.str name tk, v] [] _ so.kind so.split sub (so.args (.ref x) (.str name tk) v) ?_)
  have hmr : Looks (model prog w) hp (mroOf (.ref C)) cd.mro := (looks_clsIn X hcd).andThen .now
  have ht : Looks (model prog w) hp (storeTaker? none) none := .now
  have hcls : Looks (model prog w) hp (classData C) cd := looks_clsIn X hcd
  rw [osa_eq, refuse_eq]
  refine wpAny_bind (wpAny_bind (J.type.at (wpAny_bind (hmr.at ?_))))
  rw [hpass]
  refine wpAny_pure (wpAny_bind (J.type.at (wpAny_bind ((looks_findIn X ha).at (wpAny_bind (ht.at ?_))))))
  show wpAny _ _ (storeInOwnDict (.ref x) (.ref C) (.str name tk) name v false) _ _ _
  obtain ⟨nm, bs, mro, ns, qn, hd, sn, sb, ab, col, del⟩ := cd
  dsimp only at hh
  subst hh
  unfold storeInOwnDict ownDictForStores
  repeat
    first
      | with_reducible refine store_in_new ?_ ?_
      | with_reducible refine wpAny_loadPart_at hx ?_
      | with_reducible refine hcls.at ?_
      | wp_step
  · exact ⟨_, #[], _, (Heap.get?_update_ne _ _ _ _ hxs.symm).trans (Heap.get?_push_at rfl rfl), rfl, fun e he => absurd he (by simp), fun _ => rfl⟩
  · intro h' tk' hn' hs
    have hx1 : (hp.push { cls := .type "dict", data := .dict #[] }).get? x = some { cls := .ref C, data := .fields fv } := Heap.get?_push_of_some _ hx
    refine hq h' tk' hp.objs.size (fun b o hb ho => ?_) (Nat.le_refl _) hxs.symm ?_ hn'
    · exact (hs.2 b (Nat.ne_of_lt (Heap.lt_size ho))).trans ((Heap.get?_update_ne _ _ _ _ hb).trans (Heap.get?_push_of_some _ ho))
    · exact (hs.2 x hxs).trans (Heap.get?_update_self _ hx1 rfl)
end

section
variable {X : Cx} {pins : List (Addr × Obj)} {σ : L2.St} {H : Hp} {s : Shared} {a C fI dx : Addr} {f x : Str} {y : V} {u : Value} {A : Around}
/-- self.f = y, on a new exception -/
theorem xk_ost {Q : Unit → Shared → Prop} {E : Value → Shared → Prop} (T : XC X.K X.mg x C fI f) (I : Inv X pins σ H s) (e : H a = some (exo a C none)) (ry : RelV y u)
    (h : ∀ dx s', H dx = none → dx ≠ a → Inv X pins σ (upd (upd H dx (exd dx [(f, y)])) a (exo a C (some dx))) s' → Q () s') : wpAny (model X.prog X.w) A (setAttr (.ref a) f u) Q E s := by
  obtain ⟨B, newId, initId, bmB, nm, q, N, bs, bm, sn, sub, ab, col, dd, k0, k1, k2, k3, k5, F, cb, hC, hob, hps⟩ := T.cls
  have hcl : PySem.W.clsIn X.K C = some { name := nm, bases := bs, mro := .ref C :: bm, ns := N, qualname := q, hasDict := true, slotNames := sn, subclasses := sub, abstract := ab, collection := col, hasDel := false } := by
    unfold PySem.W.clsIn
    rw [hC] <;> rfl
  obtain ⟨t1, ho⟩ := exo_at I.hok e
  obtain ⟨hp, g, d, t, os⟩ := s
  refine PySem.W.set_plain I.kIn (ox := { cls := .ref C, dict := none, data := .fields #[.ref t1, .none, .none, .none, .bool false, .none] }) (od := none) ⟨ho, rfl, rfl, trivial⟩ T.sa ?_
  refine xk_store I.kIn ho hcl rfl (by show (Value.ref C :: bm).contains _ = true; rw [List.contains_cons, hob, Bool.or_true]) ((refuseLoop_ref _ _ C bm).trans (hps _)) rfl T.no (fun h' tk' dx k dn dne hx hn => ?_)
  have hnd : H dx = none := I.hok.fresh dn
  have nd : ∀ {b : Addr} {o : Obj}, hp.get? b = some o → b ≠ dx := fun {b o} z => Nat.ne_of_lt (Nat.lt_of_lt_of_le (Heap.lt_size z) dn)
  have na : ∀ {b : Addr}, H b = none → b ≠ a := fun {b} n z => by
    rw [z, e] at n
    cases n
  have un : Un X.fs [] H (upd (upd H dx (exd dx [(f, y)])) a (exo a C (some dx))) hp h' := by
    refine ⟨fun b o z n _ _ => k b o (na n) z, fun b o z n _ _ => ⟨o.slots, k b o (na n) z⟩, fun b o z n _ => ?_, fun b o z _ => ?_, fun b xs z => ?_, fun b o v z => ?_, fun b ps z => ?_⟩
    · rw [upd_ne (na n), upd_ne (nd z)]
      exact n
    · by_cases hb : b = a
      · exact ⟨_, by rw [hb]; exact hx⟩
      · exact ⟨o, k b o hb z⟩
    · rw [upd_ne (at_ne e z exo_tup), upd_ne (ne_of_none z hnd)]
      exact z
    · rw [upd_ne (at_ne e z exo_frz), upd_ne (ne_of_none z hnd)]
      exact z
    · exact ⟨#[], by rw [upd_ne (at_ne e z exo_tbl), upd_ne (ne_of_none z hnd), z]; simp⟩
  refine h dx _ hnd dne (I.un (t' := tk') un fun b o z => ?_)
  by_cases hb : b = a
  · subst hb
    rw [upd_same] at z
    cases z
    exact exo_ok hx
  · rw [upd_ne hb] at z
    by_cases hd : b = dx
    · subst hd
      rw [upd_same] at z
      cases z
      exact exd_ok hn (relO_put (fs := []) ry fun g => True.intro)
    · rw [upd_ne hd] at z
      refine (I.hok b o z).stay (fun c v hc y => k c v ?_ y) (fun c hc => ?_) fun c xs hc => ?_
      · rcases hc with hc | hc
        · rw [hc]
          exact hb
        · exact at_ne e hc exo_own
      · rw [upd_ne (at_ne e hc exo_own), upd_ne (ne_of_none hc hnd)]
        exact hc
      · rw [upd_ne (at_ne e hc exo_tup), upd_ne (ne_of_none hc hnd)]
        exact hc
end
section
variable {X : Cx} {C fI : Addr} {f x : Str} {o e : Expr} {to te : TE} {p p' pos kpos : Pos} {k : Nat} {fd : FuncData}
/-- self.f = e -/
def tSetX (C : Addr) (f : Str) (to te : TE) : TS := fun D σ H => te σ H fun y H1 => to σ H1 fun x H2 => ∃ a, x = .ref a ∧ H2 a = some (exo a C none) ∧ ∀ dx, H2 dx = none → dx ≠ a → D.nx σ (upd (upd H2 dx (exd dx [(f, y)])) a (exo a C (some dx)))
theorem ps_setX (T : XC X.K X.mg x C fI f) (ho : PE X o to) (he : PE X e te) (hs : swapsWith e (some (.Attribute o f p')) pos.line X.env = pure false := by rfl) : PS X (.Assign [.Attribute o f p'] e pos) (tSetX C f to te) := by
  refine ⟨fun pins s σ H D I h => ?_⟩
  refine plainObj_wpAny_Assign_Attribute (thn (he.run pins s σ H _ I h) fun v s1 ⟨y, H1, I1, r1, q1⟩ => thn (ho.run pins s1 σ H1 _ I1 q1) fun u s2 ⟨z, H2, I2, r2, a, ez, ea, q⟩ => ?_) hs
  subst ez
  obtain rfl : u = Value.ref a := r2
  exact xk_ost T I2 ea r1 fun dx s' n ne J => ⟨σ, _, J, q dx n ne⟩
/-- what every such __init__ promises: the value is kept under f -/
def spXI (C : Addr) (f : Str) : Sp := fun vs H Q _ => ∃ (a : Addr) (v : V), vs = [.ref a, v] ∧ H a = some (exo a C none) ∧ ∀ dx, H dx = none → dx ≠ a → Q .non (upd (upd H dx (exd dx [(f, v)])) a (exo a C (some dx)))
/-- how f(self, v) binds, v by place or by its name -/
def XBinds (K : PySem.W.Frag) (fd : FuncData) (f : Str) : Prop := ∀ (s : Shared) (a v : Value), K.In s.heap → BindsTo s fd ⟨[a, v], []⟩ [("self", a), (f, v)] ∧ BindsTo s fd ⟨[a], [(f, v)]⟩ [("self", a), (f, v)]
theorem run_xmk {pins : List (Addr × Obj)} {σ : L2.St} {H : Hp} {s : Shared} {Q : VK} {u : Value} {v : V} (rest : List Value) (kw : List (Str × Value)) (T : XC X.K X.mg x C fI f) (G : FnOk X.prog X.w X.K X.mg X.base CX0 k fI fd ["self", f] (spXI C f)) (hr : Room (k + 1) X.A)
    (hb : ∀ (s : Shared) (a : Value), X.K.In s.heap → BindsTo s fd ⟨a :: rest, kw⟩ [("self", a), (f, u)]) (hl : rest.length ≤ 1)
    (I : Inv X pins σ H s) (r : RelV v u) (q : ∀ a dx, H a = none → H dx = none → dx ≠ a → Q (.ref a) (upd (upd H dx (exd dx [(f, v)])) a (exo a C (some dx)))) :
    wpAny (model X.prog X.w) X.A (call (.ref C) rest kw) (EP X pins σ Q) X.xe s := by
  obtain ⟨B, newId, initId, bmB, nm, qn, N, bs, bm, sn, sub, ab, col, dd, k0, k1, k2, k3, k5, F, cb, hC, hob, hps⟩ := T.cls
  obtain ⟨hp, g, dr, tk, os⟩ := s
  have hsz : hp.objs.size ≤ hp.objs.size + 1 := Nat.le_succ _
  have hn : H (hp.objs.size + 1) = none := I.hok.fresh hsz
  have kk : ∀ b o, hp.get? b = some o → ((hp.push (PySem.W.kdv_tup rest)).push (PySem.HandSPX.excO C hp.objs.size)).get? b = some o := fun b o e => Heap.get?_push_of_some _ (Heap.get?_push_of_some _ e)
  have hget : ((hp.push (PySem.W.kdv_tup rest)).push (PySem.HandSPX.excO C hp.objs.size)).get? (hp.objs.size + 1) = some (PySem.HandSPX.excO C hp.objs.size) := by heap_get
  have I2 : Inv X pins σ (upd H (hp.objs.size + 1) (exo (hp.objs.size + 1) C none)) ⟨(hp.push (PySem.W.kdv_tup rest)).push (PySem.HandSPX.excO C hp.objs.size), g, dr, tk, os⟩ :=
    I.laid (t' := tk) (a := hp.objs.size + 1) (o := exo (hp.objs.size + 1) C none) (h' := (hp.push (PySem.W.kdv_tup rest)).push (PySem.HandSPX.excO C hp.objs.size)) kk hsz (exo_ok hget)
  have hz : rest.length ≤ sizeLine := Nat.le_of_lt (small100 (by omega))
  refine wpAny_call (xk_call F cb (I.kIn _ _ hC) (PySem.W.looks_findIn I.kIn T.iC) (fun self => PySem.W.bind_fn I.kIn self T.tI) hz
    (codeAny_mono (G.run _ X.stack _ _ ⟨Value.ref (hp.objs.size + 1) :: rest, kw⟩ [Value.ref (hp.objs.size + 1), u] [V.ref (hp.objs.size + 1), v] (fun y H' => y = .non ∧ Q (.ref (hp.objs.size + 1)) H') E0 (hr.make C rest kw) (I2.env0.make C rest kw) (hb _ _ I2.kIn) (.cons rfl (.cons r .nil))
      ⟨_, _, rfl, upd_same, fun dx hdx hne => ⟨rfl, ?_⟩⟩) fun r s' hq' => ?_))
  · have hd : H dx = none := by
      rw [upd_ne hne] at hdx
      exact hdx
    have e : upd (upd (upd H (hp.objs.size + 1) (exo (hp.objs.size + 1) C none)) dx (exd dx [(f, v)])) (hp.objs.size + 1) (exo (hp.objs.size + 1) C (some dx)) = upd (upd H dx (exd dx [(f, v)])) (hp.objs.size + 1) (exo (hp.objs.size + 1) C (some dx)) := by
      funext b
      by_cases h1 : b = hp.objs.size + 1
      · rw [h1, upd_same, upd_same]
      · rw [upd_ne h1, upd_ne h1]
        unfold upd
        rw [if_neg h1]
    rw [e]
    exact q _ dx hn hd hne
  · cases r with
    | error er => exact hq'.elim
    | ok fl =>
      cases fl with
      | ret u' =>
        obtain ⟨y, H', I3, rv, ey, q3⟩ := I2.after hq'
        subst ey
        exact ⟨rv, ⟨V.ref (hp.objs.size + 1), H', I3, rfl, q3⟩⟩
      | next => exact hq'.elim
      | brk => exact hq'.elim
      | cont => exact hq'.elim
/-- C(e), C(f = e): a new exception that keeps the value -/
def tMkX (C : Addr) (f : Str) (te : TE) : TE := fun σ H Q => te σ H fun v H1 => ∀ a dx, H1 a = none → H1 dx = none → dx ≠ a → Q (.ref a) (upd (upd H1 dx (exd dx [(f, v)])) a (exo a C (some dx)))
theorem pe_mkX (T : XC X.K X.mg x C fI f) (G : FnOk X.prog X.w X.K X.mg X.base CX0 k fI fd ["self", f] (spXI C f)) (hr : Room (k + 1) X.A) (hb : XBinds X.K fd f) (hg : Gl X x) (he : PE X e te) (hdb : (x == ("__debug__" : Str)) = false := by decide)
    (hs : starEach [e] X.env = (false, eval e X.env) :: starEach [] X.env := by rfl) (hpl : (backTo pos (starEach [] X.env)).any (·.1) = false := by rfl) : PE X (.Call (.Name x p) [e] [] pos) (tMkX C f te) := by
  refine ⟨fun pins s σ H Q I h => ?_⟩
  refine wpAny_Call_Name_kw (ld_glob I hg T.gC ?_ hdb)
  refine PySem.W.callWith_K (h₀ := X.base) I.ok.mod.kin T.kC ?_ hs hpl
  rw [hs]
  show wpAny _ _ (spliced ((false, eval e X.env) :: backTo pos (starEach [] X.env))) _ _ s
  refine Calls.spliced_cons (thn (he.run pins s σ H _ I h) fun u s1 ⟨v, H1, I1, r1, q1⟩ => ?_)
  refine Calls.spliced_nil ⟨I1.kIn, ?_⟩
  exact run_xmk [u] [] T G hr (fun s a X => (hb s a u X).1) (Nat.le_refl _) I1 r1 q1
theorem pe_mkXk (T : XC X.K X.mg x C fI f) (G : FnOk X.prog X.w X.K X.mg X.base CX0 k fI fd ["self", f] (spXI C f)) (hr : Room (k + 1) X.A) (hb : XBinds X.K fd f) (hg : Gl X x) (he : PE X e te) (hdb : (x == ("__debug__" : Str)) = false := by decide)
    (hall : (backToKw pos (keywordEach [⟨some f, e, kpos⟩] X.env)).all (·.1.isSome) = true := by rfl) (hks : (backToKw pos (keywordEach [⟨some f, e, kpos⟩] X.env)).filterMap (·.1) = [f] := by rfl)
    (hpl : ((backTo pos (starEach [] X.env)).any (·.1) || (backToKw pos (keywordEach [⟨some f, e, kpos⟩] X.env)).any (·.1.isNone)) = false := by rfl) : PE X (.Call (.Name x p) [] [⟨some f, e, kpos⟩] pos) (tMkX C f te) := by
  refine ⟨fun pins s σ H Q I h => ?_⟩
  refine wpAny_Call_Name_kw (ld_glob I hg T.gC ?_ hdb)
  refine PySem.W.callWith_KW0 (h₀ := X.base) I.ok.mod.kin T.kC hall ?_ hpl
  have hk : PK X [⟨some f, e, kpos⟩] (tCons te tNil) := pk_cons he pk_nil
  refine thn (hk.run pos pins s σ H (fun vs H1 => match vs with | [v] => ∀ a dx, H1 a = none → H1 dx = none → dx ≠ a → Q (.ref a) (upd (upd H1 dx (exd dx [(f, v)])) a (exo a C (some dx))) | _ => False) I h) fun ws s2 ⟨zs, H2, I2, rz, q2⟩ => ⟨I2.kIn, ?_⟩
  rw [hks]
  match zs, rz, q2 with
  | [v], rz, q2 =>
    obtain ⟨u, rfl, ru⟩ := vals1 rz
    exact run_xmk [] [(f, u)] T G hr (fun s a X => (hb s a u X).2) (Nat.zero_le _) I2 ru q2
/-- what is kept under f -/
def tGetX (C : Addr) (f : Str) (te : TE) : TE := fun σ H Q => te σ H fun x H1 => ∃ (a dx : Addr) (v : V), x = .ref a ∧ H1 a = some (exo a C (some dx)) ∧ H1 dx = some (exd dx [(f, v)]) ∧ Q v H1
theorem pe_getX (T : XC X.K X.mg x C fI f) (he : PE X e te) (hb : attributeBase e f X.env (eval e X.env) = eval e X.env := by rfl) : PE X (.Attribute e f pos) (tGetX C f te) := by
  refine ⟨fun pins s σ H Q I h => ?_⟩
  refine attr_of hb (thn (he.run pins s σ H _ I h) fun u s1 ⟨x, H1, I1, rx, a, dx, v, ex, ea, ed, q⟩ => ?_)
  subst ex
  cases rx
  obtain ⟨t1, ho⟩ := exo_at I1.hok ea
  obtain ⟨mA, hns, hr⟩ := exd_at I1.hok ed
  obtain ⟨od, hod, hl⟩ := lookIn_ns hns
  have l : List.lookup f [(f, v)] = some v := by simp [List.lookup]
  obtain ⟨u, hu, ru⟩ := RelO.some_of (v := v) (o := mA f) (by rw [← l]; exact hr f)
  have J : PySem.W.InstAt s1.heap a _ C (some od) := ⟨ho, rfl, rfl, hod⟩
  exact HandSPX.exc_get I1.kIn J T.ex.hg T.ex.hk T.ex.hs (PySem.W.findObj_own T.ex.hd T.no rfl (by rw [hl, hu])) (handed_of ru) ⟨v, H1, I1.tok _, ru, q⟩
/-- C(), a class without an own __init__ -/
theorem pe_mk0 {bmB : List Value} {B newId initId : String} (F : ExcBaseFacts B newId initId bmB) (q : PySem.W.excIn X.K C bmB newId = true) (gC : X.mg x = some (.ref C)) (kC : PySem.W.keepIn X.K (.ref C) = true) (hg : Gl X x) (hdb : (x == ("__debug__" : Str)) = false := by decide) :
    PE X (.Call (.Name x p) [] [] pos) (fun σ H Q => ∀ a, H a = none → Q (.ref a) (upd H a (ExO (.ref C) a))) := by
  refine ⟨fun pins s σ H Q I h => ?_⟩
  refine wpAny_Call_Name_kw (ld_glob I hg gC ?_ hdb)
  refine PySem.W.callWith_K0 I.kIn kC ?_
  obtain ⟨bm, N, nm, qn, bs, hdct, sn, sub, ab, col, dd, k0, k1, k2, k3, k5, mN, hC, hN, hni, T⟩ := exc_obj I.kIn q
  refine wpAny_call_exc_subT F T hC hN hni (fun h' a hm => ?_) (by show 0 ≤ sizeLine; exact Nat.zero_le _)
  have hn : H a = none := I.hok.gone hm.new
  obtain ⟨t, ht, _, _⟩ := hm.there
  exact ⟨.ref a, upd H a (ExO (.ref C) a), I.laidN hm.keeps hm.new hn (exO_ok ht ⟨rfl, rfl⟩ rfl rfl rfl (show 4 < 6 by decide)), rfl, h a hn⟩
end
end Vf

set_option Elab.async false
set_option linter.all false
set_option maxRecDepth 100000
set_option maxHeartbeats 4000000
/-! repr of data: a def whose frames stand under no repr (no guard) -/
namespace Vf
open PySem PySem.Spec PySem.Calls PyProof.Rows L2

/-! ### repr -/
section
variable {X : Cx}
def rRepr (K : PySem.W.Frag) : List V → Hp → VK → Prop := fun xs H Q => ∃ (v : V) (d : PyData), xs = [v] ∧ Dp K H v d ∧ d.showable = true ∧ d.hasDict = false ∧ d.depth ≤ 100 ∧ d.shown.length ≤ sizeLine ∧ Q (.str d.shown) H
theorem cr_repr (hg : X.A.guards = some []) (hu : X.A.units + 110 < cLine) : CallR X (.builtin "repr") (rRepr X.K) := by
  intro pins s σ H xs us Q I r h
  obtain ⟨v, d, rfl, hd, hs, hn, hz, hl, q⟩ := h
  obtain ⟨u, rfl, rx⟩ := vals1 r
  obtain ⟨as, hr⟩ := Dp.reads I d v u hd rx
  have big : ∀ a : Addr, u = .ref a → wpAny (model X.prog X.w) X.A (call (.builtin "repr") [u]) (EP X pins σ Q) X.xe s := by
    rintro a rfl
    exact repr_of_reads' hr hs (PyData.noDict_hsm hn) hg (by omega) (fun _ _ e => e) (fun h' w tk hk => ⟨.str _, H, I.kept (t' := tk) hk, ⟨w, rfl⟩, q⟩) hl
  cases hd with
  | non =>
    cases rx
    exact PySem.P.repr_of_none ⟨.str _, H, I.tok _, ⟨_, rfl⟩, q⟩
  | bl b =>
    cases rx
    exact PySem.P.repr_of_bool ⟨.str _, H, I.tok _, ⟨_, rfl⟩, q⟩
  | int i =>
    obtain ⟨t, rfl⟩ := rx
    exact PySem.P.repr_of_int (by simpa [PyData.showable] using hs) ⟨.str _, H, I.tok _, ⟨_, rfl⟩, q⟩
  | str x =>
    obtain ⟨t, rfl⟩ := rx
    exact PySem.P.repr_of_str ⟨.str _, H, I.tok _, ⟨_, rfl⟩, q⟩ hl
  | lst _ _ =>
    cases rx
    exact big _ rfl
  | tup _ _ =>
    cases rx
    exact big _ rfl
end

/-! ### a def that is called under no repr -/
structure FnG (P : Program) (w : World) (K : PySem.W.Frag) (mg : Str → Option Value) (base : Heap) (k : Nat) (f : Addr) (fd : FuncData) (ps : List Str) (sp : Sp) : Prop where
  len : ∀ vs H Q E, sp vs H Q E → vs.length = ps.length
  run : ∀ (A : Around) (outer : List Env) (s : Shared) (H : Hp) (args : Args) (us : List Value) (vs : List V) (Q : VK) (E : XK), Room k A → A.guards = some [] → Env0 P w K mg base A outer s H → BindsTo s fd args (ps.zip us) → Vals vs us → sp vs H Q E →
    codeAny (model P w) A (.call (.ref f) args) (CR CX0 outer P w H s Q E) s
section
variable {P : Program} {w : World} {K : PySem.W.Frag} {mg : Str → Option Value} {base : Heap}
theorem okG {x qual : Str} {st : Stmt} {f : Addr} {fd : FuncData} {N ps : List Str} {k : Nat} {sp : Sp} (F : Fun K x qual st f fd) (S : FnScope N ps (defScope st)) (len : ∀ vs H Q E, sp vs H Q E → vs.length = ps.length)
    (hbody : ∀ (cdv : Value) (A : Around) (outer : List Env) (s : Shared) (H : Hp) (vs : List V) (Q : VK) (E : XK), Room k (A.deeper (envOfC qual (defScope st) s.heap.objs.size f cdv)) → A.guards = some [] → sp vs H Q E →
      ∃ t, PSs (cxOf CX0 P w K mg base N qual (defScope st) f cdv A outer s H E).nox (defBody st) t ∧ t { nx := fun _ H' => Q .non H', rt := Q } (start N vs) H) : FnG P w K mg base (k + 1) f fd ps sp := by
  obtain ⟨oc, od, kV, doc, pm, an, cdv, ct, osl, rfl, lk, hcd⟩ := F.ex
  refine ⟨len, fun A outer s H args us vs Q E hr hgd e0 hb r hsp => ?_⟩
  have hln := len _ _ _ _ hsp
  have kept : ∀ b o, base.get? b = some o → s.heap.get? b = some o := fun b o e => (e0.bs b o e).1
  have hK : K.In s.heap := e0.mod.kin.keeps kept
  have hkind : ∀ y ∈ ps.zip us, (defScope st).names.lookup y.1 = some .local ∨ ((defScope st).names.lookup y.1 = some .cell ∧ ((cellsFrom (s.heap.objs.size + 1) (defScope st).names []).lookup y.1).isSome = true) := by
    rintro ⟨n, v⟩ hy
    rcases S.par n (List.of_mem_zip hy).1 with q | q
    · exact .inl q
    · exact .inr ⟨q, PySem.W.cellsFrom_some _ _ _ (.inl q)⟩
  refine codeAny_call_function hr.depth (hK _ _ lk) rfl S.co S.gen rfl (PySem.W.codeRec_of hK hcd) (hb _ _ _ _ ?_)
  refine wpAny_newFunctionEnv_cells S.kind hkind fun env he s1 x => ?_
  subst he
  refine ⟨(e0.mod.nolimit.keeps kept).keeps x.toInCall.keep, codeAny_func ?_⟩
  obtain ⟨t, ht, hq⟩ := hbody cdv A outer s H vs Q E (hr.deeper _) hgd hsp
  have I := inv_start (CX := CX0) (qual := qual) (f := f) (cd := cdv) (E := E) S hr.hd e0 hln r x
  refine wpAny_mono (ht.nox.run [] s1 (start N vs) H _ I hq) (fun fl s' hs => ?_) fun e s' hs => hs
  have fin : ∀ {σ' : L2.St} {H' : Hp} {v : V} {u : Value}, Inv (cxOf CX0 P w K mg base N qual (defScope st) f cdv A outer s H E) [] σ' H' s' → RelV v u → Q v H' → CE outer P w H s Q u s' :=
    fun {σ' H' v u} J rv q => ⟨v, H', J.os, J.bare, J.base, J.hok, rv, q⟩
  match fl, hs with
  | .ret u, ⟨v, σ', H', J, rv, q⟩ => exact fin J rv q
  | .next, ⟨σ', H', J, q⟩ => exact fin (v := V.non) (u := Value.none) J rfl q
  | .brk, ⟨_, _, _, q⟩ => exact q.elim
  | .cont, ⟨_, _, _, q⟩ => exact q.elim

/-! ### the law's own call -/
/-- the script alone is tracked, or nothing -/
theorem lawG {fa a : Addr} {fd : FuncData} {x : Str} {sp : Sp} {k : Nat} {mb : Str → Option Value} {s1 : Shared} {vs : List Value} {ns : List Int} (KX : K.In s1.heap) (hns : s1.heap.Ns mainGlobals mg) (hb : s1.heap.Ns builtinsNs mb)
    (hbb : ∀ x : Str, x ≠ "__name__" → mb x = bootBuiltins x) (hlim : s1.heap.NoLimit) (hg : s1.gens = #[]) (ha : s1.heap.get? a = some { cls := .type "list", data := .seq vs.toArray }) (hi : IntsAre vs ns) (hl : ns.length ≤ sizeLine) (hr : Room k callerA)
    (F : ∀ base : Heap, K.In base → base.Ns mainGlobals mg → FnG P w K mg base k fa fd [x] sp) (hbind : ∀ (s : Shared) (u : Value), BindsTo s fd ⟨[u], []⟩ [(x, u)])
    (hsp : ∀ H : Hp, Only H → SqL K H a (ns.map V.int) → sp [.ref a] H (fun v _ => v = .bl true) fun _ _ _ => False) :
    codeAny (model P w) callerA (.call (.ref fa) ⟨[.ref a], []⟩) (fun r s' => r = .ok (.ret (.bool true)) ∧ OldK s1.heap s'.heap ∧ s'.os = s1.os ∧ AllBare s'.gens) s1 := by
  have rv := vals_ints hi
  have main : ∀ H : Hp, Only H → SqL K H a (ns.map V.int) → HOk P w H s1.heap → (∀ b u, H b = some u → b = a ∧ K.lookup a = none) →
      codeAny (model P w) callerA (.call (.ref fa) ⟨[.ref a], []⟩) (fun r s' => r = .ok (.ret (.bool true)) ∧ OldK s1.heap s'.heap ∧ s'.os = s1.os ∧ AllBare s'.gens) s1 := by
    intro H only hS hok hA
    have noD : ∀ {b : Addr} {o : Obj} {es : Array DictEntry} {ep : Nat}, s1.heap.get? b = some o → o.data = .dict es ep → H b = none := by
      intro b o es ep e d
      cases q : H b with
      | none => rfl
      | some u =>
        obtain ⟨rfl, _⟩ := hA b u q
        rw [ha] at e
        cases e
        have d' : Data.seq vs.toArray _ = Data.dict es ep := d
        cases d'
    have nsB : ∀ {b : Addr} {m : Str → Option Value}, s1.heap.Ns b m → (hidT s1.heap H).Ns b m := by
      rintro b m ⟨o, es, ep, e, d, rest⟩
      exact ⟨o, es, ep, hidT_get e (noD e d), d, rest⟩
    have inB : K.In (hidT s1.heap H) := by
      intro b o e
      refine hidT_get (KX b o e) ?_
      cases q : H b with
      | none => rfl
      | some u =>
        obtain ⟨rfl, z⟩ := hA b u q
        rw [z] at e
        cases e
    obtain ⟨mc, l1, l2⟩ := hlim
    have hM : Mod K mg (hidT s1.heap H) := ⟨inB, nsB hns, ⟨mb, nsB hb, hbb⟩, ⟨mc, nsB l1, l2⟩⟩
    have e0 : Env0 P w K mg (hidT s1.heap H) callerA [] s1 H :=
      ⟨rfl, hM, fun b o e => of_hidT e, Nat.le_of_eq (hidT_size _ _), trivial, fun b z => absurd (show b ∈ ([] : List Addr) from z) (by simp), hok, .of_eq hg⟩
    refine codeAny_mono ((F _ inB (nsB hns)).run callerA [] s1 H ⟨[.ref a], []⟩ [.ref a] [.ref a] _ _ hr rfl e0 (hbind s1 (.ref a)) (.cons rfl .nil) (hsp H only hS)) fun r s' h => ?_
    match r, h with
    | .error e, h => exact False.elim h
    | .ok .next, h => exact False.elim h
    | .ok .brk, h => exact False.elim h
    | .ok .cont, h => exact False.elim h
    | .ok (.ret u), ⟨v, H', os, bare, un, hok', r', q⟩ =>
      have q' : v = .bl true := q
      subst q'
      obtain rfl : u = Value.bool true := r'
      refine ⟨rfl, OldK.of_keep fun b o e => ?_, os, bare⟩
      rcases only b with z | ⟨ob, xs, z⟩
      · exact un.keep b o e z (by intro y; exact absurd (show b ∈ ([] : List Addr) from y) (by simp)) (by simp)
      · obtain ⟨e1, _⟩ := hok b _ z
        obtain ⟨e2, _⟩ := hok' b _ (un.frzs b ob _ z)
        rw [e] at e1
        cases e1
        exact e2
  cases hk : K.lookup a with
  | some o =>
    have e := KX a o hk
    rw [ha] at e
    cases e
    exact main (fun _ => none) (fun _ => .inl rfl) (.inr ⟨_, vs.toArray, _, hk, rfl, rfl, rfl, by rw [List.size_toArray, hi.length]; exact hl, by simpa using rv⟩) (fun b u z => by cases (show (none : Option HO) = some u from z)) (fun b u z => by cases (show (none : Option HO) = some u from z))
  | none =>
    have at1 : ∀ {b : Addr} {u : HO}, (if b = a then some (HO.frz { cls := .type "list", data := .seq vs.toArray } (.lst (ns.map V.int))) else none) = some u → b = a ∧ u = HO.frz { cls := .type "list", data := .seq vs.toArray } (.lst (ns.map V.int)) := by
      intro b u z
      split at z
      · exact ⟨by assumption, (Option.some.inj z).symm⟩
      · cases z
    refine main (fun b => if b = a then some (.frz { cls := .type "list", data := .seq vs.toArray } (.lst (ns.map V.int))) else none) (fun b => ?_) (.inl (.inr ⟨_, if_pos rfl⟩)) (fun b u z => ?_) (fun b u z => ⟨(at1 z).1, hk⟩)
    · by_cases hb : b = a
      · exact .inr ⟨_, _, if_pos hb⟩
      · exact .inl (if_neg hb)
    · obtain ⟨rfl, rfl⟩ := at1 z
      exact ⟨ha, by rw [List.length_map]; exact hl, vs, _, rv, ha⟩
end
/-- the goal that the head leaves, from the law's promise -/
theorem walkG {l : PySem.W.OpenLaw} {n k : Nat} {q : Program} {loose : List Str} {XP : (Str → Option Value) → Heap → Prop} {YP : World → Heap → Prop} {d : DefRec} {K : Params → PySem.W.Frag} {sp : PySem.W.Frag → Sp} {x : Str}
    (hn : l.most = some n) (hn2 : n ≤ sizeLine) (hdf : d.params.defaults = []) (hr : Room k callerA) (hY : ∀ (w : World) (h : Heap), YP w h → (K w.params).In h)
    (F : ∀ (w : World) (mg : Str → Option Value) (fa : Addr) (h : Heap), (K w.params).In h → h.Ns mainGlobals mg → mg d.name = some (.ref fa) →
      ∃ fd : FuncData, (∀ (s : Shared) (u : Value), BindsTo s fd ⟨[u], []⟩ [(x, u)]) ∧ ∀ base : Heap, (K w.params).In base → base.Ns mainGlobals mg → FnG l.prog w (K w.params) mg base k fa fd [x] (sp (K w.params)))
    (hsp : ∀ (K : PySem.W.Frag) (H : Hp) (a : Addr) (ns : List Int), ns.length ≤ n → Only H → SqL K H a (ns.map V.int) → sp K [.ref a] H (fun v _ => v = .bl true) fun _ _ _ => False) :
    PySem.W.WalkO q loose XP YP l.row.toRowW d [] (fun f vs => PySem.call f vs) := by
  refine Att.attach_call hn hdf fun w s0 s1 mg mb fa o pm cd doc a vs ns G Y ho hd hcd hmg hobj hints hlen hg => ?_
  have KX := hY w _ Y
  obtain ⟨fd, hb, hF⟩ := F w mg fa _ KX G.T.g hmg
  exact lawG KX G.T.g G.T.b G.T.builtins G.T.nolimit hg hobj hints (Nat.le_trans hlen hn2) hr hF hb fun H only hS => hsp (K w.params) H a ns hlen only hS
end Vf

set_option Elab.async false
set_option linter.all false
set_option maxRecDepth 100000
set_option maxHeartbeats 2000000
namespace Vf
open PySem PySem.Spec PyProof.Rows L2

abbrev sI (i : Nat) : Stmt := inClass (top i) 0
abbrev sWord : Stmt := top 21
abbrev sNumb : Stmt := top 22
abbrev sKeyw : Stmt := top 23
abbrev sSort : Stmt := top 24
abbrev sKept : Stmt := top 25
abbrev sLaw : Stmt := top 26

/-- where the classes and their __init__ stand -/
structure Adr where
  c0 : Addr
  i0 : Addr
  d0 : FuncData
  c1 : Addr
  i1 : Addr
  d1 : FuncData
  c2 : Addr
  i2 : Addr
  d2 : FuncData
  c3 : Addr
  i3 : Addr
  d3 : FuncData
  c4 : Addr
  i4 : Addr
  d4 : FuncData
  c5 : Addr
  i5 : Addr
  d5 : FuncData
  c6 : Addr
  i6 : Addr
  d6 : FuncData
  c7 : Addr
  i7 : Addr
  d7 : FuncData
  c8 : Addr
  i8 : Addr
  d8 : FuncData
  c9 : Addr
  i9 : Addr
  d9 : FuncData
  c10 : Addr
  i10 : Addr
  d10 : FuncData
  c11 : Addr
  i11 : Addr
  d11 : FuncData
  c12 : Addr
  pe : Addr
def cof (a : Adr) : Nat → Addr
  | 0 => a.c0
  | 1 => a.c1
  | 2 => a.c2
  | 3 => a.c3
  | 4 => a.c4
  | 5 => a.c5
  | 6 => a.c6
  | 7 => a.c7
  | 8 => a.c8
  | 9 => a.c9
  | 10 => a.c10
  | 11 => a.c11
  | _ => a.c12
def fof : Nat → Str
  | 0 => "word"
  | 1 => "word"
  | 2 => "word"
  | 3 => "word"
  | 4 => "at"
  | 5 => "at"
  | 6 => "at"
  | 7 => "at"
  | 8 => "at"
  | 9 => "at"
  | 10 => "name"
  | _ => "name"
structure ErrTxt (K : PySem.W.Frag) (mg : Str → Option Value) (a : Adr) : Prop where
  x0 : XC K mg "InvalidStep" a.c0 a.i0 "word"
  F0 : Fun K "__init__" "InvalidStep.__init__" (sI 2) a.i0 a.d0
  b0 : XBinds K a.d0 "word"
  x1 : XC K mg "InvalidWork" a.c1 a.i1 "word"
  F1 : Fun K "__init__" "InvalidWork.__init__" (sI 3) a.i1 a.d1
  b1 : XBinds K a.d1 "word"
  x2 : XC K mg "InvalidKitchen" a.c2 a.i2 "word"
  F2 : Fun K "__init__" "InvalidKitchen.__init__" (sI 4) a.i2 a.d2
  b2 : XBinds K a.d2 "word"
  x3 : XC K mg "InvalidBook" a.c3 a.i3 "word"
  F3 : Fun K "__init__" "InvalidBook.__init__" (sI 5) a.i3 a.d3
  b3 : XBinds K a.d3 "word"
  x4 : XC K mg "InvalidText" a.c4 a.i4 "at"
  F4 : Fun K "__init__" "InvalidText.__init__" (sI 6) a.i4 a.d4
  b4 : XBinds K a.d4 "at"
  x5 : XC K mg "InvalidRow" a.c5 a.i5 "at"
  F5 : Fun K "__init__" "InvalidRow.__init__" (sI 7) a.i5 a.d5
  b5 : XBinds K a.d5 "at"
  x6 : XC K mg "InvalidWay" a.c6 a.i6 "at"
  F6 : Fun K "__init__" "InvalidWay.__init__" (sI 8) a.i6 a.d6
  b6 : XBinds K a.d6 "at"
  x7 : XC K mg "InvalidStory" a.c7 a.i7 "at"
  F7 : Fun K "__init__" "InvalidStory.__init__" (sI 9) a.i7 a.d7
  b7 : XBinds K a.d7 "at"
  x8 : XC K mg "Refused" a.c8 a.i8 "at"
  F8 : Fun K "__init__" "Refused.__init__" (sI 11) a.i8 a.d8
  b8 : XBinds K a.d8 "at"
  x9 : XC K mg "NoLimit" a.c9 a.i9 "at"
  F9 : Fun K "__init__" "NoLimit.__init__" (sI 14) a.i9 a.d9
  b9 : XBinds K a.d9 "at"
  x10 : XC K mg "NoStep" a.c10 a.i10 "name"
  F10 : Fun K "__init__" "NoStep.__init__" (sI 12) a.i10 a.d10
  b10 : XBinds K a.d10 "name"
  x11 : XC K mg "NoPlace" a.c11 a.i11 "name"
  F11 : Fun K "__init__" "NoPlace.__init__" (sI 13) a.i11 a.d11
  b11 : XBinds K a.d11 "name"
  g12 : mg "InvalidCommand" = some (.ref a.c12)
  q12 : PySem.W.excIn K a.c12 [.type "ValueError", .type "Exception", .type "BaseException", .type "object"] "ValueError.__new__" = true
  k12 : PySem.W.keepIn K (.ref a.c12) = true
  ex : ∀ i, i ≤ 12 → ExcC K (cof a i)
  gPE : mg "PlateError" = some (.ref a.pe)
  mVE : mg "ValueError" = none
  mIE : mg "IndexError" = none
  mKE : mg "KeyError" = none
  mIs : mg "isinstance" = none
  mEn : mg "enumerate" = none
  kit : ∀ i j, i ≤ 12 → j ≤ 12 → PySem.W.kitOne K (.ref (cof a i)) (.ref (cof a j)) = some (decide (i = j))
  kP : ∀ i, i ≤ 12 → PySem.W.kitOne K (.ref (cof a i)) (.ref a.pe) = some (decide (i < 9 ∨ i = 12))
  kV : ∀ i, i ≤ 12 → PySem.W.kitOne K (.ref (cof a i)) (.type "ValueError") = some (decide (i < 9 ∨ i = 12))
  kI : ∀ i, i ≤ 12 → PySem.W.kitOne K (.ref (cof a i)) (.type "IndexError") = some (decide (i = 9))
  kK : ∀ i, i ≤ 12 → PySem.W.kitOne K (.ref (cof a i)) (.type "KeyError") = some (decide (i = 10 ∨ i = 11))
section
variable {P : Program} {w : World} {K : PySem.W.Frag} {mg : Str → Option Value} {base : Heap}
theorem scI2 : FnScope ["self", "word"] ["self", "word"] (defScope (sI 2)) := ⟨rfl, rfl, rfl, by decide +kernel, rfl, by decide +kernel, by decide +kernel⟩
theorem ok_i2 {x : Str} {C f : Addr} {fd : FuncData} (F : Fun K "__init__" "InvalidStep.__init__" (sI 2) f fd) (T : XC K mg x C f "word") : FnOk P w K mg base CX0 1 f fd ["self", "word"] (spXI C "word") := by
  refine F.ok scI2 (fun vs H Q E h => ?_) (fun cdv A outer s H vs Q E hr h => ?_)
  · obtain ⟨a, v, rfl, _⟩ := h
    rfl
  · obtain ⟨a, v, rfl, ha, k⟩ := h
    exact ⟨_, pss_one (ps_setX T (pv 0) (pv 1)), ⟨_, rfl, _, rfl, a, rfl, ha, k⟩⟩
theorem scI3 : FnScope ["self", "word"] ["self", "word"] (defScope (sI 3)) := ⟨rfl, rfl, rfl, by decide +kernel, rfl, by decide +kernel, by decide +kernel⟩
theorem ok_i3 {x : Str} {C f : Addr} {fd : FuncData} (F : Fun K "__init__" "InvalidWork.__init__" (sI 3) f fd) (T : XC K mg x C f "word") : FnOk P w K mg base CX0 1 f fd ["self", "word"] (spXI C "word") := by
  refine F.ok scI3 (fun vs H Q E h => ?_) (fun cdv A outer s H vs Q E hr h => ?_)
  · obtain ⟨a, v, rfl, _⟩ := h
    rfl
  · obtain ⟨a, v, rfl, ha, k⟩ := h
    exact ⟨_, pss_one (ps_setX T (pv 0) (pv 1)), ⟨_, rfl, _, rfl, a, rfl, ha, k⟩⟩
theorem scI4 : FnScope ["self", "word"] ["self", "word"] (defScope (sI 4)) := ⟨rfl, rfl, rfl, by decide +kernel, rfl, by decide +kernel, by decide +kernel⟩
theorem ok_i4 {x : Str} {C f : Addr} {fd : FuncData} (F : Fun K "__init__" "InvalidKitchen.__init__" (sI 4) f fd) (T : XC K mg x C f "word") : FnOk P w K mg base CX0 1 f fd ["self", "word"] (spXI C "word") := by
  refine F.ok scI4 (fun vs H Q E h => ?_) (fun cdv A outer s H vs Q E hr h => ?_)
  · obtain ⟨a, v, rfl, _⟩ := h
    rfl
  · obtain ⟨a, v, rfl, ha, k⟩ := h
    exact ⟨_, pss_one (ps_setX T (pv 0) (pv 1)), ⟨_, rfl, _, rfl, a, rfl, ha, k⟩⟩
theorem scI5 : FnScope ["self", "word"] ["self", "word"] (defScope (sI 5)) := ⟨rfl, rfl, rfl, by decide +kernel, rfl, by decide +kernel, by decide +kernel⟩
theorem ok_i5 {x : Str} {C f : Addr} {fd : FuncData} (F : Fun K "__init__" "InvalidBook.__init__" (sI 5) f fd) (T : XC K mg x C f "word") : FnOk P w K mg base CX0 1 f fd ["self", "word"] (spXI C "word") := by
  refine F.ok scI5 (fun vs H Q E h => ?_) (fun cdv A outer s H vs Q E hr h => ?_)
  · obtain ⟨a, v, rfl, _⟩ := h
    rfl
  · obtain ⟨a, v, rfl, ha, k⟩ := h
    exact ⟨_, pss_one (ps_setX T (pv 0) (pv 1)), ⟨_, rfl, _, rfl, a, rfl, ha, k⟩⟩
theorem scI6 : FnScope ["self", "at"] ["self", "at"] (defScope (sI 6)) := ⟨rfl, rfl, rfl, by decide +kernel, rfl, by decide +kernel, by decide +kernel⟩
theorem ok_i6 {x : Str} {C f : Addr} {fd : FuncData} (F : Fun K "__init__" "InvalidText.__init__" (sI 6) f fd) (T : XC K mg x C f "at") : FnOk P w K mg base CX0 1 f fd ["self", "at"] (spXI C "at") := by
  refine F.ok scI6 (fun vs H Q E h => ?_) (fun cdv A outer s H vs Q E hr h => ?_)
  · obtain ⟨a, v, rfl, _⟩ := h
    rfl
  · obtain ⟨a, v, rfl, ha, k⟩ := h
    exact ⟨_, pss_one (ps_setX T (pv 0) (pv 1)), ⟨_, rfl, _, rfl, a, rfl, ha, k⟩⟩
theorem scI7 : FnScope ["self", "at"] ["self", "at"] (defScope (sI 7)) := ⟨rfl, rfl, rfl, by decide +kernel, rfl, by decide +kernel, by decide +kernel⟩
theorem ok_i7 {x : Str} {C f : Addr} {fd : FuncData} (F : Fun K "__init__" "InvalidRow.__init__" (sI 7) f fd) (T : XC K mg x C f "at") : FnOk P w K mg base CX0 1 f fd ["self", "at"] (spXI C "at") := by
  refine F.ok scI7 (fun vs H Q E h => ?_) (fun cdv A outer s H vs Q E hr h => ?_)
  · obtain ⟨a, v, rfl, _⟩ := h
    rfl
  · obtain ⟨a, v, rfl, ha, k⟩ := h
    exact ⟨_, pss_one (ps_setX T (pv 0) (pv 1)), ⟨_, rfl, _, rfl, a, rfl, ha, k⟩⟩
theorem scI8 : FnScope ["self", "at"] ["self", "at"] (defScope (sI 8)) := ⟨rfl, rfl, rfl, by decide +kernel, rfl, by decide +kernel, by decide +kernel⟩
theorem ok_i8 {x : Str} {C f : Addr} {fd : FuncData} (F : Fun K "__init__" "InvalidWay.__init__" (sI 8) f fd) (T : XC K mg x C f "at") : FnOk P w K mg base CX0 1 f fd ["self", "at"] (spXI C "at") := by
  refine F.ok scI8 (fun vs H Q E h => ?_) (fun cdv A outer s H vs Q E hr h => ?_)
  · obtain ⟨a, v, rfl, _⟩ := h
    rfl
  · obtain ⟨a, v, rfl, ha, k⟩ := h
    exact ⟨_, pss_one (ps_setX T (pv 0) (pv 1)), ⟨_, rfl, _, rfl, a, rfl, ha, k⟩⟩
theorem scI9 : FnScope ["self", "at"] ["self", "at"] (defScope (sI 9)) := ⟨rfl, rfl, rfl, by decide +kernel, rfl, by decide +kernel, by decide +kernel⟩
theorem ok_i9 {x : Str} {C f : Addr} {fd : FuncData} (F : Fun K "__init__" "InvalidStory.__init__" (sI 9) f fd) (T : XC K mg x C f "at") : FnOk P w K mg base CX0 1 f fd ["self", "at"] (spXI C "at") := by
  refine F.ok scI9 (fun vs H Q E h => ?_) (fun cdv A outer s H vs Q E hr h => ?_)
  · obtain ⟨a, v, rfl, _⟩ := h
    rfl
  · obtain ⟨a, v, rfl, ha, k⟩ := h
    exact ⟨_, pss_one (ps_setX T (pv 0) (pv 1)), ⟨_, rfl, _, rfl, a, rfl, ha, k⟩⟩
theorem scI11 : FnScope ["self", "at"] ["self", "at"] (defScope (sI 11)) := ⟨rfl, rfl, rfl, by decide +kernel, rfl, by decide +kernel, by decide +kernel⟩
theorem ok_i11 {x : Str} {C f : Addr} {fd : FuncData} (F : Fun K "__init__" "Refused.__init__" (sI 11) f fd) (T : XC K mg x C f "at") : FnOk P w K mg base CX0 1 f fd ["self", "at"] (spXI C "at") := by
  refine F.ok scI11 (fun vs H Q E h => ?_) (fun cdv A outer s H vs Q E hr h => ?_)
  · obtain ⟨a, v, rfl, _⟩ := h
    rfl
  · obtain ⟨a, v, rfl, ha, k⟩ := h
    exact ⟨_, pss_one (ps_setX T (pv 0) (pv 1)), ⟨_, rfl, _, rfl, a, rfl, ha, k⟩⟩
theorem scI14 : FnScope ["self", "at"] ["self", "at"] (defScope (sI 14)) := ⟨rfl, rfl, rfl, by decide +kernel, rfl, by decide +kernel, by decide +kernel⟩
theorem ok_i14 {x : Str} {C f : Addr} {fd : FuncData} (F : Fun K "__init__" "NoLimit.__init__" (sI 14) f fd) (T : XC K mg x C f "at") : FnOk P w K mg base CX0 1 f fd ["self", "at"] (spXI C "at") := by
  refine F.ok scI14 (fun vs H Q E h => ?_) (fun cdv A outer s H vs Q E hr h => ?_)
  · obtain ⟨a, v, rfl, _⟩ := h
    rfl
  · obtain ⟨a, v, rfl, ha, k⟩ := h
    exact ⟨_, pss_one (ps_setX T (pv 0) (pv 1)), ⟨_, rfl, _, rfl, a, rfl, ha, k⟩⟩
theorem scI12 : FnScope ["self", "name"] ["self", "name"] (defScope (sI 12)) := ⟨rfl, rfl, rfl, by decide +kernel, rfl, by decide +kernel, by decide +kernel⟩
theorem ok_i12 {x : Str} {C f : Addr} {fd : FuncData} (F : Fun K "__init__" "NoStep.__init__" (sI 12) f fd) (T : XC K mg x C f "name") : FnOk P w K mg base CX0 1 f fd ["self", "name"] (spXI C "name") := by
  refine F.ok scI12 (fun vs H Q E h => ?_) (fun cdv A outer s H vs Q E hr h => ?_)
  · obtain ⟨a, v, rfl, _⟩ := h
    rfl
  · obtain ⟨a, v, rfl, ha, k⟩ := h
    exact ⟨_, pss_one (ps_setX T (pv 0) (pv 1)), ⟨_, rfl, _, rfl, a, rfl, ha, k⟩⟩
theorem scI13 : FnScope ["self", "name"] ["self", "name"] (defScope (sI 13)) := ⟨rfl, rfl, rfl, by decide +kernel, rfl, by decide +kernel, by decide +kernel⟩
theorem ok_i13 {x : Str} {C f : Addr} {fd : FuncData} (F : Fun K "__init__" "NoPlace.__init__" (sI 13) f fd) (T : XC K mg x C f "name") : FnOk P w K mg base CX0 1 f fd ["self", "name"] (spXI C "name") := by
  refine F.ok scI13 (fun vs H Q E h => ?_) (fun cdv A outer s H vs Q E hr h => ?_)
  · obtain ⟨a, v, rfl, _⟩ := h
    rfl
  · obtain ⟨a, v, rfl, ha, k⟩ := h
    exact ⟨_, pss_one (ps_setX T (pv 0) (pv 1)), ⟨_, rfl, _, rfl, a, rfl, ha, k⟩⟩

/-! ### exceptions by their places -/
/-- a new exception of the class number s, that keeps v -/
def ErrAt (a : Adr) (H : Hp) (s : Nat) (e : Addr) (v : V) : Prop := ∃ dx, H e = some (exo e (cof a s) (some dx)) ∧ H dx = some (exd dx [(fof s, v)])
theorem ErrAt.mono {a : Adr} {H H' : Hp} {s : Nat} {e : Addr} {v : V} (m : Same H H') (h : ErrAt a H s e v) : ErrAt a H' s e v := by
  obtain ⟨dx, h1, h2⟩ := h
  exact ⟨dx, m _ _ h1, m _ _ h2⟩
def spBy (a : Adr) (lo hi : Nat) : Sp := fun vs H Q _ => ∃ (s : Nat) (v : V), vs = [.int s, v] ∧ lo ≤ s ∧ s < hi ∧ ∀ e H', Same H H' → ErrAt a H' s e v → Q (.ref e) H'
theorem errMade {a : Adr} {H : Hp} {s : Nat} {e dx : Addr} {v : V} {C : Addr} {f : Str} (hC : cof a s = C) (hf : fof s = f) (he : H e = none) (hd : H dx = none) (hn : dx ≠ e) :
    Same H (upd (upd H dx (exd dx [(f, v)])) e (exo e C (some dx))) ∧ ErrAt a (upd (upd H dx (exd dx [(f, v)])) e (exo e C (some dx))) s e v := by
  subst hC hf
  refine ⟨fun b o q => ?_, dx, upd_same, ?_⟩
  · rw [upd_ne (ne_of_none q he), upd_ne (ne_of_none q hd)]
    exact q
  · rw [upd_ne hn, upd_same]
theorem scWord : FnScope ["_law_spot", "_law_thing_here"] ["_law_spot", "_law_thing_here"] (defScope sWord) := ⟨rfl, rfl, rfl, by decide +kernel, rfl, by decide +kernel, by decide +kernel⟩
theorem ok_word {a : Adr} {f : Addr} {fd : FuncData} (F : Fun K "_law_by_word" "_law_by_word" sWord f fd) (T : ErrTxt K mg a) : FnOk P w K mg base CX0 3 f fd ["_law_spot", "_law_thing_here"] (spBy a 0 4) := by
  refine F.ok scWord (fun vs H Q E h => ?_) (fun cdv A outer s H vs Q E hr h => ?_)
  · obtain ⟨s, v, rfl, _⟩ := h
    rfl
  · obtain ⟨s, v, rfl, h0, h1, k⟩ := h
    refine ⟨_, pss_cons (ps_if (pt_cmpR op_lt (pv 0) pe_int (nomark _)) (pss_one (ps_ret (pe_ifExp (pt_cmpR op_eq (pv 0) pe_int (nomark _)) (pe_mkX T.x0 (ok_i2 T.F0 T.x0) hr T.b0 rfl (pv 1)) (pe_mkX T.x1 (ok_i3 T.F1 T.x1) hr T.b1 rfl (pv 1))))) pss_nil)
      (pss_one (ps_ret (pe_ifExp (pt_cmpR op_eq (pv 0) pe_int (nomark _)) (pe_mkX T.x2 (ok_i4 T.F2 T.x2) hr T.b2 rfl (pv 1)) (pe_mkX T.x3 (ok_i5 T.F3 T.x3) hr T.b3 rfl (pv 1))))), ?_⟩
    refine ⟨_, rfl, _, _, rfl, rfl, _, rfl, ?_⟩
    match s, h1 with
    | 0, _ => exact iteT ⟨_, rfl, rfl, _, rfl, iteT ⟨_, rfl, fun e dx he hd hn => (fun z => k e _ z.1 z.2) (errMade (a := a) (s := 0) (C := a.c0) (f := "word") rfl rfl he hd hn)⟩⟩
    | 1, _ => exact iteT ⟨_, rfl, rfl, _, rfl, iteF ⟨_, rfl, fun e dx he hd hn => (fun z => k e _ z.1 z.2) (errMade (a := a) (s := 1) (C := a.c1) (f := "word") rfl rfl he hd hn)⟩⟩
    | 2, _ => exact iteF ⟨_, rfl, rfl, _, rfl, iteT ⟨_, rfl, fun e dx he hd hn => (fun z => k e _ z.1 z.2) (errMade (a := a) (s := 2) (C := a.c2) (f := "word") rfl rfl he hd hn)⟩⟩
    | 3, _ => exact iteF ⟨_, rfl, rfl, _, rfl, iteF ⟨_, rfl, fun e dx he hd hn => (fun z => k e _ z.1 z.2) (errMade (a := a) (s := 3) (C := a.c3) (f := "word") rfl rfl he hd hn)⟩⟩
    | s + 4, h => omega
theorem scNumb : FnScope ["_law_spot", "_law_thing_here"] ["_law_spot", "_law_thing_here"] (defScope sNumb) := ⟨rfl, rfl, rfl, by decide +kernel, rfl, by decide +kernel, by decide +kernel⟩
theorem ok_numb {a : Adr} {f : Addr} {fd : FuncData} (F : Fun K "_law_by_number" "_law_by_number" sNumb f fd) (T : ErrTxt K mg a) : FnOk P w K mg base CX0 3 f fd ["_law_spot", "_law_thing_here"] (spBy a 4 12) := by
  refine F.ok scNumb (fun vs H Q E h => ?_) (fun cdv A outer s H vs Q E hr h => ?_)
  · obtain ⟨s, v, rfl, _⟩ := h
    rfl
  · obtain ⟨s, v, rfl, h0, h1, k⟩ := h
    refine ⟨_, pss_cons (ps_if (pt_cmpR op_lt (pv 0) pe_int (nomark _)) (pss_cons (ps_if (pt_cmpR op_lt (pv 0) pe_int (nomark _))
        (pss_one (ps_ret (pe_ifExp (pt_cmpR op_eq (pv 0) pe_int (nomark _)) (pe_mkX T.x4 (ok_i6 T.F4 T.x4) hr T.b4 rfl (pv 1)) (pe_mkX T.x5 (ok_i7 T.F5 T.x5) hr T.b5 rfl (pv 1))))) pss_nil)
        (pss_one (ps_ret (pe_ifExp (pt_cmpR op_eq (pv 0) pe_int (nomark _)) (pe_mkX T.x6 (ok_i8 T.F6 T.x6) hr T.b6 rfl (pv 1)) (pe_mkX T.x7 (ok_i9 T.F7 T.x7) hr T.b7 rfl (pv 1)))))) pss_nil)
      (pss_cons (ps_if (pt_cmpR op_lt (pv 0) pe_int (nomark _)) (pss_one (ps_ret (pe_ifExp (pt_cmpR op_eq (pv 0) pe_int (nomark _)) (pe_mkX T.x8 (ok_i11 T.F8 T.x8) hr T.b8 rfl (pv 1)) (pe_mkX T.x9 (ok_i14 T.F9 T.x9) hr T.b9 rfl (pv 1))))) pss_nil)
      (pss_one (ps_ret (pe_ifExp (pt_cmpR op_eq (pv 0) pe_int (nomark _)) (pe_mkX T.x10 (ok_i12 T.F10 T.x10) hr T.b10 rfl (pv 1)) (pe_mkX T.x11 (ok_i13 T.F11 T.x11) hr T.b11 rfl (pv 1)))))), ?_⟩
    refine ⟨_, rfl, _, _, rfl, rfl, _, rfl, ?_⟩
    match s, h0, h1 with
    | 4, _, _ => exact iteT ⟨_, rfl, _, _, rfl, rfl, _, rfl, iteT ⟨_, rfl, rfl, _, rfl, iteT ⟨_, rfl, fun e dx he hd hn => (fun z => k e _ z.1 z.2) (errMade (a := a) (s := 4) (C := a.c4) (f := "at") rfl rfl he hd hn)⟩⟩⟩
    | 5, _, _ => exact iteT ⟨_, rfl, _, _, rfl, rfl, _, rfl, iteT ⟨_, rfl, rfl, _, rfl, iteF ⟨_, rfl, fun e dx he hd hn => (fun z => k e _ z.1 z.2) (errMade (a := a) (s := 5) (C := a.c5) (f := "at") rfl rfl he hd hn)⟩⟩⟩
    | 6, _, _ => exact iteT ⟨_, rfl, _, _, rfl, rfl, _, rfl, iteF ⟨_, rfl, rfl, _, rfl, iteT ⟨_, rfl, fun e dx he hd hn => (fun z => k e _ z.1 z.2) (errMade (a := a) (s := 6) (C := a.c6) (f := "at") rfl rfl he hd hn)⟩⟩⟩
    | 7, _, _ => exact iteT ⟨_, rfl, _, _, rfl, rfl, _, rfl, iteF ⟨_, rfl, rfl, _, rfl, iteF ⟨_, rfl, fun e dx he hd hn => (fun z => k e _ z.1 z.2) (errMade (a := a) (s := 7) (C := a.c7) (f := "at") rfl rfl he hd hn)⟩⟩⟩
    | 8, _, _ => exact iteF ⟨_, rfl, _, _, rfl, rfl, _, rfl, iteT ⟨_, rfl, rfl, _, rfl, iteT ⟨_, rfl, fun e dx he hd hn => (fun z => k e _ z.1 z.2) (errMade (a := a) (s := 8) (C := a.c8) (f := "at") rfl rfl he hd hn)⟩⟩⟩
    | 9, _, _ => exact iteF ⟨_, rfl, _, _, rfl, rfl, _, rfl, iteT ⟨_, rfl, rfl, _, rfl, iteF ⟨_, rfl, fun e dx he hd hn => (fun z => k e _ z.1 z.2) (errMade (a := a) (s := 9) (C := a.c9) (f := "at") rfl rfl he hd hn)⟩⟩⟩
    | 10, _, _ => exact iteF ⟨_, rfl, _, _, rfl, rfl, _, rfl, iteF ⟨_, rfl, rfl, _, rfl, iteT ⟨_, rfl, fun e dx he hd hn => (fun z => k e _ z.1 z.2) (errMade (a := a) (s := 10) (C := a.c10) (f := "name") rfl rfl he hd hn)⟩⟩⟩
    | 11, _, _ => exact iteF ⟨_, rfl, _, _, rfl, rfl, _, rfl, iteF ⟨_, rfl, rfl, _, rfl, iteF ⟨_, rfl, fun e dx he hd hn => (fun z => k e _ z.1 z.2) (errMade (a := a) (s := 11) (C := a.c11) (f := "name") rfl rfl he hd hn)⟩⟩⟩
    | s + 12, _, h => omega
    | 0, h, _ => omega
    | 1, h, _ => omega
    | 2, h, _ => omega
    | 3, h, _ => omega
abbrev nKeyw : List Str := ["_law_spot", "_law_thing_here", "_law_some"]
theorem scKeyw : FnScope nKeyw ["_law_spot", "_law_thing_here"] (defScope sKeyw) := ⟨rfl, rfl, rfl, by decide +kernel, rfl, by decide +kernel, by decide +kernel⟩
theorem ok_keyw {a : Adr} {f : Addr} {fd : FuncData} (F : Fun K "_law_by_keyword" "_law_by_keyword" sKeyw f fd) (T : ErrTxt K mg a) : FnOk P w K mg base CX0 3 f fd ["_law_spot", "_law_thing_here"] (spBy a 0 12) := by
  refine F.ok scKeyw (fun vs H Q E h => ?_) (fun cdv A outer s H vs Q E hr h => ?_)
  · obtain ⟨s, v, rfl, _⟩ := h
    rfl
  · obtain ⟨s, v, rfl, h0, h1, k⟩ := h
    refine ⟨_, pss_cons (ps_if (pt_cmpR op_lt (pv 0) pe_int (nomark _))
        (pss_cons (ps_set (i := 2) scKeyw.nd rfl (.inl rfl) (pe_lst (pa_cons (pe_mkXk T.x0 (ok_i2 T.F0 T.x0) hr T.b0 rfl (pv 1)) (pa_cons (pe_mkXk T.x1 (ok_i3 T.F1 T.x1) hr T.b1 rfl (pv 1)) pa_nil))))
        (pss_cons (ps_set (i := 2) scKeyw.nd rfl (.inl rfl) (pe_op op_cat (pv 2) (pe_lst (pa_cons (pe_mkXk T.x2 (ok_i4 T.F2 T.x2) hr T.b2 rfl (pv 1)) (pa_cons (pe_mkXk T.x3 (ok_i5 T.F3 T.x3) hr T.b3 rfl (pv 1)) pa_nil)))))
        (pss_one (ps_ret (pe_ix ix_list (pv 2) (pv 0) (fun _ _ => rfl)))))) pss_nil)
      (pss_cons (ps_if (pt_cmpR op_lt (pv 0) pe_int (nomark _))
        (pss_cons (ps_set (i := 2) scKeyw.nd rfl (.inl rfl) (pe_lst (pa_cons (pe_mkXk T.x4 (ok_i6 T.F4 T.x4) hr T.b4 rfl (pv 1)) (pa_cons (pe_mkXk T.x5 (ok_i7 T.F5 T.x5) hr T.b5 rfl (pv 1)) (pa_cons (pe_mkXk T.x6 (ok_i8 T.F6 T.x6) hr T.b6 rfl (pv 1)) (pa_cons (pe_mkXk T.x7 (ok_i9 T.F7 T.x7) hr T.b7 rfl (pv 1)) pa_nil))))))
        (pss_one (ps_ret (pe_ix ix_list (pe_op op_cat (pv 2) (pe_lst (pa_cons (pe_mkXk T.x8 (ok_i11 T.F8 T.x8) hr T.b8 rfl (pv 1)) (pa_cons (pe_mkXk T.x9 (ok_i14 T.F9 T.x9) hr T.b9 rfl (pv 1)) pa_nil)))) (pe_op op_sub (pv 0) pe_int) (fun _ _ => rfl))))) pss_nil)
      (pss_one (ps_ret (pe_ifExp (pt_cmpR op_eq (pv 0) pe_int (nomark _)) (pe_mkXk T.x10 (ok_i12 T.F10 T.x10) hr T.b10 rfl (pv 1)) (pe_mkXk T.x11 (ok_i13 T.F11 T.x11) hr T.b11 rfl (pv 1)))))), ?_⟩
    refine ⟨_, rfl, _, _, rfl, rfl, _, rfl, ?_⟩
    by_cases c4 : s < 4
    · rw [decide_eq_true (show (s : Int) < 4 by omega)]
      refine iteT ?_
      refine ⟨_, rfl, fun e0 d0 he0 hd0 hn0 => ⟨_, rfl, fun e1 d1 he1 hd1 hn1 => ⟨(by show 2 ≤ sizeLine; decide), fun l1 hl1 => ?_⟩⟩⟩
      have m0 := errMade (a := a) (s := 0) (C := a.c0) (f := "word") (v := v) rfl rfl he0 hd0 hn0
      have m1 := errMade (a := a) (s := 1) (C := a.c1) (f := "word") (v := v) rfl rfl he1 hd1 hn1
      have s1 := same_new (o := HO.lst [.ref e0, .ref e1]) hl1
      refine ⟨_, rfl, _, rfl, fun e2 d2 he2 hd2 hn2 => ⟨_, rfl, fun e3 d3 he3 hd3 hn3 => ⟨(by show 2 ≤ sizeLine; decide), fun l2 hl2 => ?_⟩⟩⟩
      have m2 := errMade (a := a) (s := 2) (C := a.c2) (f := "word") (v := v) rfl rfl he2 hd2 hn2
      have m3 := errMade (a := a) (s := 3) (C := a.c3) (f := "word") (v := v) rfl rfl he3 hd3 hn3
      have s2 := same_new (o := HO.lst [.ref e2, .ref e3]) hl2
      refine ⟨l1, l2, _, _, rfl, rfl, ((m2.1.trans m3.1).trans s2) _ _ upd_same, upd_same, (by show 4 ≤ sizeLine; decide), fun l3 hl3 => ?_⟩
      have s3 := same_new (o := HO.lst [.ref e0, .ref e1, .ref e2, .ref e3]) hl3
      have all := (((((m0.1.trans m1.1).trans s1).trans m2.1).trans m3.1).trans s2).trans s3
      have z0 := m0.2.mono (((((m1.1.trans s1).trans m2.1).trans m3.1).trans s2).trans s3)
      have z1 := m1.2.mono ((((s1.trans m2.1).trans m3.1).trans s2).trans s3)
      have z2 := m2.2.mono ((m3.1.trans s2).trans s3)
      have z3 := m3.2.mono (s2.trans s3)
      match s, c4 with
      | 0, _ => exact ⟨_, rfl, _, rfl, l3, _, _, _, rfl, rfl, SqL.of upd_same, rfl, k _ _ all z0⟩
      | 1, _ => exact ⟨_, rfl, _, rfl, l3, _, _, _, rfl, rfl, SqL.of upd_same, rfl, k _ _ all z1⟩
      | 2, _ => exact ⟨_, rfl, _, rfl, l3, _, _, _, rfl, rfl, SqL.of upd_same, rfl, k _ _ all z2⟩
      | 3, _ => exact ⟨_, rfl, _, rfl, l3, _, _, _, rfl, rfl, SqL.of upd_same, rfl, k _ _ all z3⟩
      | s + 4, h => omega
    · rw [decide_eq_false (show ¬ (s : Int) < 4 by omega)]
      refine iteF ?_
      refine ⟨_, rfl, _, _, rfl, rfl, _, rfl, ?_⟩
      by_cases c10 : s < 10
      · rw [decide_eq_true (show (s : Int) < 10 by omega)]
        refine iteT ?_
        refine ⟨_, rfl, fun e0 d0 he0 hd0 hn0 => ⟨_, rfl, fun e1 d1 he1 hd1 hn1 => ⟨_, rfl, fun e2 d2 he2 hd2 hn2 => ⟨_, rfl, fun e3 d3 he3 hd3 hn3 => ⟨(by show 4 ≤ sizeLine; decide), fun l1 hl1 => ?_⟩⟩⟩⟩⟩
        have m0 := errMade (a := a) (s := 4) (C := a.c4) (f := "at") (v := v) rfl rfl he0 hd0 hn0
        have m1 := errMade (a := a) (s := 5) (C := a.c5) (f := "at") (v := v) rfl rfl he1 hd1 hn1
        have m2 := errMade (a := a) (s := 6) (C := a.c6) (f := "at") (v := v) rfl rfl he2 hd2 hn2
        have m3 := errMade (a := a) (s := 7) (C := a.c7) (f := "at") (v := v) rfl rfl he3 hd3 hn3
        have s1 := same_new (o := HO.lst [.ref e0, .ref e1, .ref e2, .ref e3]) hl1
        refine ⟨_, rfl, _, rfl, fun e4 d4 he4 hd4 hn4 => ⟨_, rfl, fun e5 d5 he5 hd5 hn5 => ⟨(by show 2 ≤ sizeLine; decide), fun l2 hl2 => ?_⟩⟩⟩
        have m4 := errMade (a := a) (s := 8) (C := a.c8) (f := "at") (v := v) rfl rfl he4 hd4 hn4
        have m5 := errMade (a := a) (s := 9) (C := a.c9) (f := "at") (v := v) rfl rfl he5 hd5 hn5
        have s2 := same_new (o := HO.lst [.ref e4, .ref e5]) hl2
        refine ⟨l1, l2, _, _, rfl, rfl, ((m4.1.trans m5.1).trans s2) _ _ upd_same, upd_same, (by show 6 ≤ sizeLine; decide), fun l3 hl3 => ?_⟩
        have s3 := same_new (o := HO.lst [.ref e0, .ref e1, .ref e2, .ref e3, .ref e4, .ref e5]) hl3
        have all := (((((((m0.1.trans m1.1).trans m2.1).trans m3.1).trans s1).trans m4.1).trans m5.1).trans s2).trans s3
        have t5 := s2.trans s3
        have t4 := m5.1.trans t5
        have t1 := s1.trans (m4.1.trans t4)
        have z0 := m0.2.mono (m1.1.trans (m2.1.trans (m3.1.trans t1)))
        have z1 := m1.2.mono (m2.1.trans (m3.1.trans t1))
        have z2 := m2.2.mono (m3.1.trans t1)
        have z3 := m3.2.mono t1
        have z4 := m4.2.mono t4
        have z5 := m5.2.mono t5
        match s, c4, c10 with
        | 4, _, _ => exact ⟨_, rfl, _, _, rfl, rfl, l3, _, _, _, rfl, rfl, SqL.of upd_same, rfl, k _ _ all z0⟩
        | 5, _, _ => exact ⟨_, rfl, _, _, rfl, rfl, l3, _, _, _, rfl, rfl, SqL.of upd_same, rfl, k _ _ all z1⟩
        | 6, _, _ => exact ⟨_, rfl, _, _, rfl, rfl, l3, _, _, _, rfl, rfl, SqL.of upd_same, rfl, k _ _ all z2⟩
        | 7, _, _ => exact ⟨_, rfl, _, _, rfl, rfl, l3, _, _, _, rfl, rfl, SqL.of upd_same, rfl, k _ _ all z3⟩
        | 8, _, _ => exact ⟨_, rfl, _, _, rfl, rfl, l3, _, _, _, rfl, rfl, SqL.of upd_same, rfl, k _ _ all z4⟩
        | 9, _, _ => exact ⟨_, rfl, _, _, rfl, rfl, l3, _, _, _, rfl, rfl, SqL.of upd_same, rfl, k _ _ all z5⟩
        | s + 10, _, h => omega
        | 0, h, _ => omega
        | 1, h, _ => omega
        | 2, h, _ => omega
        | 3, h, _ => omega
      · rw [decide_eq_false (show ¬ (s : Int) < 10 by omega)]
        refine iteF ?_
        refine ⟨_, rfl, rfl, _, rfl, ?_⟩
        match s, c10, h1 with
        | 10, _, _ => exact iteT ⟨_, rfl, fun e dx he hd hn => (fun z => k e _ z.1 z.2) (errMade (a := a) (s := 10) (C := a.c10) (f := "name") rfl rfl he hd hn)⟩
        | 11, _, _ => exact iteF ⟨_, rfl, fun e dx he hd hn => (fun z => k e _ z.1 z.2) (errMade (a := a) (s := 11) (C := a.c11) (f := "name") rfl rfl he hd hn)⟩
        | s + 12, _, h => omega
        | 0, h, _ => omega
        | 1, h, _ => omega
        | 2, h, _ => omega
        | 3, h, _ => omega
        | 4, h, _ => omega
        | 5, h, _ => omega
        | 6, h, _ => omega
        | 7, h, _ => omega
        | 8, h, _ => omega
        | 9, h, _ => omega
end
end Vf

set_option Elab.async false
set_option linter.all false
set_option maxRecDepth 100000
set_option maxHeartbeats 2000000
namespace Vf
open PySem PySem.Spec PyProof.Rows L2
section
variable {P : Program} {w : World} {K : PySem.W.Frag} {mg : Str → Option Value} {base : Heap}
/-! ### of which class -/
def spSorts (a : Adr) : Sp := fun vs H Q _ => ∃ (e : Addr) (s : Nat), vs = [.ref e] ∧ s ≤ 12 ∧ XAt H e (cof a s) ∧ ∀ l H', Same H H' → H' l = some (.lst [.int s]) → Q (.ref l) H'
abbrev nSorts : List Str := ["_law_e", "_law_found", "_law_spot", "_law_is_so"]
theorem scSorts : FnScope nSorts ["_law_e"] (defScope sSort) := ⟨rfl, rfl, rfl, by decide +kernel, rfl, by decide +kernel, by decide +kernel⟩
def answers (s : Nat) : List V := (List.range 13).map fun j => V.bl (decide (s = j))
theorem answers_at {s i : Nat} (h : i < 13) : (answers s)[i]? = some (.bl (decide (s = i))) := by
  unfold answers
  rw [List.getElem?_map, List.getElem?_range h]
  rfl
theorem ok_sorts {a : Adr} {f : Addr} {fd : FuncData} (F : Fun K "_law_sorts" "_law_sorts" sSort f fd) (T : ErrTxt K mg a) : FnOk P w K mg base CX0 1 f fd ["_law_e"] (spSorts a) := by
  refine F.ok scSorts (fun vs H Q E h => ?_) (fun cdv A outer s0 H vs Q E hr h => ?_)
  · obtain ⟨e, s, rfl, _⟩ := h
    rfl
  · obtain ⟨e, s, rfl, hs, xa, k⟩ := h
    refine ⟨_, pss_cons (ps_set (i := 1) scSorts.nd rfl (.inl rfl) (pe_lst (pa_cons (pe_callB call_isX (by rfl) T.mIs (by decide +kernel) (pa_cons (pv 0) (pa_cons (pe_glob (v := .ref a.c0) rfl T.x0.gC rfl) pa_nil))) (pa_cons (pe_callB call_isX (by rfl) T.mIs (by decide +kernel) (pa_cons (pv 0) (pa_cons (pe_glob (v := .ref a.c1) rfl T.x1.gC rfl) pa_nil))) (pa_cons (pe_callB call_isX (by rfl) T.mIs (by decide +kernel) (pa_cons (pv 0) (pa_cons (pe_glob (v := .ref a.c2) rfl T.x2.gC rfl) pa_nil))) pa_nil)))))
      (pss_cons (ps_set (i := 1) scSorts.nd rfl (.inl rfl) (pe_op op_cat (pv 1) (pe_lst (pa_cons (pe_callB call_isX (by rfl) T.mIs (by decide +kernel) (pa_cons (pv 0) (pa_cons (pe_glob (v := .ref a.c3) rfl T.x3.gC rfl) pa_nil))) (pa_cons (pe_callB call_isX (by rfl) T.mIs (by decide +kernel) (pa_cons (pv 0) (pa_cons (pe_glob (v := .ref a.c4) rfl T.x4.gC rfl) pa_nil))) (pa_cons (pe_callB call_isX (by rfl) T.mIs (by decide +kernel) (pa_cons (pv 0) (pa_cons (pe_glob (v := .ref a.c5) rfl T.x5.gC rfl) pa_nil))) pa_nil))))))
      (pss_cons (ps_set (i := 1) scSorts.nd rfl (.inl rfl) (pe_op op_cat (pv 1) (pe_lst (pa_cons (pe_callB call_isX (by rfl) T.mIs (by decide +kernel) (pa_cons (pv 0) (pa_cons (pe_glob (v := .ref a.c6) rfl T.x6.gC rfl) pa_nil))) (pa_cons (pe_callB call_isX (by rfl) T.mIs (by decide +kernel) (pa_cons (pv 0) (pa_cons (pe_glob (v := .ref a.c7) rfl T.x7.gC rfl) pa_nil))) (pa_cons (pe_callB call_isX (by rfl) T.mIs (by decide +kernel) (pa_cons (pv 0) (pa_cons (pe_glob (v := .ref a.c8) rfl T.x8.gC rfl) pa_nil))) pa_nil))))))
      (pss_cons (ps_set (i := 1) scSorts.nd rfl (.inl rfl) (pe_op op_cat (pv 1) (pe_lst (pa_cons (pe_callB call_isX (by rfl) T.mIs (by decide +kernel) (pa_cons (pv 0) (pa_cons (pe_glob (v := .ref a.c9) rfl T.x9.gC rfl) pa_nil))) (pa_cons (pe_callB call_isX (by rfl) T.mIs (by decide +kernel) (pa_cons (pv 0) (pa_cons (pe_glob (v := .ref a.c10) rfl T.x10.gC rfl) pa_nil))) (pa_cons (pe_callB call_isX (by rfl) T.mIs (by decide +kernel) (pa_cons (pv 0) (pa_cons (pe_glob (v := .ref a.c11) rfl T.x11.gC rfl) pa_nil))) pa_nil))))))
      (pss_cons (ps_expr (pe_bm PySem.F.plainAttrs_list PySem.F.slot_list_append PySem.F.type_list_append mt_append (pv 1) (pa_cons (pe_callB call_isX (by rfl) T.mIs (by decide +kernel) (pa_cons (pv 0) (pa_cons (pe_glob (v := .ref a.c12) rfl T.g12 rfl) pa_nil))) pa_nil)))
      (pss_one (ps_ret (pe_lc (own := [("_law_spot", 2), ("_law_is_so", 3)]) (g := gTup K 2 (gCons (gName 2) (gCons (gName 3) gNil))) rfl scSorts.nd (pi_enum (by rfl) T.mEn (pa_cons (pv 1) pa_nil)) (blkOk_by (N := nSorts) (sc := defScope sSort) (by decide +kernel))
          (fun _ _ _ _ _ => pg_tup rfl (pgs_cons (pg_name (i := 2) scSorts.nd rfl (.inl rfl)) (pgs_cons (pg_name (i := 3) scSorts.nd rfl (.inl rfl)) pgs_nil)))
          (fun _ _ _ _ _ => pts_one (pt_val (pv 3))) (fun _ _ _ _ _ => pv 2)))))))), ?_⟩
    refine ⟨_, rfl, e, _, _, _, _, rfl, xa, T.ex s hs, .own _, T.kit s 0 hs (by decide), _, rfl, e, _, _, _, _, rfl, xa, T.ex s hs, .own _, T.kit s 1 hs (by decide), _, rfl, e, _, _, _, _, rfl, xa, T.ex s hs, .own _, T.kit s 2 hs (by decide), (by show 3 ≤ sizeLine; decide), fun l1 h1 => ?_⟩
    have s1 := same_new (o := HO.lst [.bl (decide (s = 0)), .bl (decide (s = 1)), .bl (decide (s = 2))]) h1
    have x1 := xa.mono s1
    refine ⟨_, rfl, _, rfl, e, _, _, _, _, rfl, x1, T.ex s hs, .own _, T.kit s 3 hs (by decide), _, rfl, e, _, _, _, _, rfl, x1, T.ex s hs, .own _, T.kit s 4 hs (by decide), _, rfl, e, _, _, _, _, rfl, x1, T.ex s hs, .own _, T.kit s 5 hs (by decide), (by show 3 ≤ sizeLine; decide), fun l2 h2 => ?_⟩
    have s2 := same_new (o := HO.lst [.bl (decide (s = 3)), .bl (decide (s = 4)), .bl (decide (s = 5))]) h2
    refine ⟨l1, l2, _, _, rfl, rfl, s2 _ _ upd_same, upd_same, (by show 6 ≤ sizeLine; decide), fun l3 h3 => ?_⟩
    have s3 := same_new (o := HO.lst ([.bl (decide (s = 0)), .bl (decide (s = 1)), .bl (decide (s = 2))] ++ [.bl (decide (s = 3)), .bl (decide (s = 4)), .bl (decide (s = 5))])) h3
    have x3 := (x1.mono s2).mono s3
    refine ⟨_, rfl, _, rfl, e, _, _, _, _, rfl, x3, T.ex s hs, .own _, T.kit s 6 hs (by decide), _, rfl, e, _, _, _, _, rfl, x3, T.ex s hs, .own _, T.kit s 7 hs (by decide), _, rfl, e, _, _, _, _, rfl, x3, T.ex s hs, .own _, T.kit s 8 hs (by decide), (by show 3 ≤ sizeLine; decide), fun l4 h4 => ?_⟩
    have s4 := same_new (o := HO.lst [.bl (decide (s = 6)), .bl (decide (s = 7)), .bl (decide (s = 8))]) h4
    refine ⟨l3, l4, _, _, rfl, rfl, s4 _ _ upd_same, upd_same, (by show 9 ≤ sizeLine; decide), fun l5 h5 => ?_⟩
    have s5 := same_new (o := HO.lst (([.bl (decide (s = 0)), .bl (decide (s = 1)), .bl (decide (s = 2))] ++ [.bl (decide (s = 3)), .bl (decide (s = 4)), .bl (decide (s = 5))]) ++ [.bl (decide (s = 6)), .bl (decide (s = 7)), .bl (decide (s = 8))])) h5
    have x5 := (x3.mono s4).mono s5
    refine ⟨_, rfl, _, rfl, e, _, _, _, _, rfl, x5, T.ex s hs, .own _, T.kit s 9 hs (by decide), _, rfl, e, _, _, _, _, rfl, x5, T.ex s hs, .own _, T.kit s 10 hs (by decide), _, rfl, e, _, _, _, _, rfl, x5, T.ex s hs, .own _, T.kit s 11 hs (by decide), (by show 3 ≤ sizeLine; decide), fun l6 h6 => ?_⟩
    have s6 := same_new (o := HO.lst [.bl (decide (s = 9)), .bl (decide (s = 10)), .bl (decide (s = 11))]) h6
    refine ⟨l5, l6, _, _, rfl, rfl, s6 _ _ upd_same, upd_same, (by show 12 ≤ sizeLine; decide), fun l7 h7 => ?_⟩
    have s7 := same_new (o := HO.lst ((([.bl (decide (s = 0)), .bl (decide (s = 1)), .bl (decide (s = 2))] ++ [.bl (decide (s = 3)), .bl (decide (s = 4)), .bl (decide (s = 5))]) ++ [.bl (decide (s = 6)), .bl (decide (s = 7)), .bl (decide (s = 8))]) ++ [.bl (decide (s = 9)), .bl (decide (s = 10)), .bl (decide (s = 11))])) h7
    have x7 := (x5.mono s6).mono s7
    have all := (((((s1.trans s2).trans s3).trans s4).trans s5).trans s6).trans s7
    have hn7 : H l7 = none := (((((s1.trans s2).trans s3).trans s4).trans s5).trans s6).free h7
    refine ⟨_, rfl, .inl ⟨rfl, _, SqL.of upd_same⟩, _, rfl, e, _, _, _, _, rfl, x7, T.ex s hs, .own _, T.kit s 12 hs (by decide), l7, _, _, rfl, rfl, upd_same, (by show 12 < sizeLine; decide), ?_⟩
    obtain ⟨G, ⟨sG, gl⟩, hG⟩ := named (F := fun G => Same H G ∧ G l7 = some (.lst (answers s))) (G0 := upd (upd _ l7 (HO.lst ((([.bl (decide (s = 0)), .bl (decide (s = 1)), .bl (decide (s = 2))] ++ [.bl (decide (s = 3)), .bl (decide (s = 4)), .bl (decide (s = 5))]) ++ [.bl (decide (s = 6)), .bl (decide (s = 7)), .bl (decide (s = 8))]) ++ [.bl (decide (s = 9)), .bl (decide (s = 10)), .bl (decide (s = 11))]))) l7 (HO.lst (((([.bl (decide (s = 0)), .bl (decide (s = 1)), .bl (decide (s = 2))] ++ [.bl (decide (s = 3)), .bl (decide (s = 4)), .bl (decide (s = 5))]) ++ [.bl (decide (s = 6)), .bl (decide (s = 7)), .bl (decide (s = 8))]) ++ [.bl (decide (s = 9)), .bl (decide (s = 10)), .bl (decide (s = 11))]) ++ [.bl (decide (s = 12))]))) ⟨fun b o q => by
      rw [upd_ne (ne_of_none q hn7)]
      exact all b o q, upd_same⟩
    rw [hG]
    refine ⟨_, rfl, l7, _, rfl, SqL.of gl, fun D hD => ?_⟩
    have nD : H D = none := sG.free hD
    refine lc_it (walk_enum (K := K) (a := l7) (xs := answers s)) (fun i H' => Same G H' ∧ H' D = some (.lst (if s < i then [.int s] else []))) ⟨same_new hD, upd_same⟩ (fun i H' _ ⟨s8, _⟩ => s8.seq (SqL.of gl)) ?_ ?_
    · rintro i x H1 H2 hi ⟨s8, hd⟩ ⟨t, y, z, rfl, ht, rfl, ey, ez⟩
      have hi' : i < 13 := hi
      have ez' : (answers s)[i]? = some z := ez
      have ey' : some (V.int (i : Nat)) = some y := ey
      rw [answers_at hi'] at ez'
      cases ey'
      cases ez'
      have s9 := same_new (o := HO.tup [.int i, .bl (decide (s = i))]) ht
      have hd2 := s9 _ _ hd
      refine ⟨t, _, rfl, SqT.of upd_same, rfl, _, _, rfl, _, _, rfl, rfl, rfl, _, rfl, _, rfl, ?_⟩
      refine ite2 (fun e1 => ?_) (fun e1 => ?_)
      · have e2 : s = i := of_decide_eq_true e1
        subst e2
        rw [if_neg (Nat.lt_irrefl s)] at hd2
        refine ⟨_, rfl, _, hd2, (by show 0 < sizeLine; decide), fun b o q => ?_, ?_⟩
        · rw [upd_ne (ne_of_none q hD)]
          exact s9 _ _ (s8 _ _ q)
        · rw [upd_same, if_pos (Nat.lt_succ_self s)]
          rfl
      · have e2 : ¬ s = i := fun z => e1 (decide_eq_true z)
        refine ⟨s8.trans s9, ?_⟩
        rw [hd2]
        by_cases c : s < i
        · rw [if_pos c, if_pos (by omega)]
        · rw [if_neg c, if_neg (by omega)]
    · rintro H1 ⟨s8, hd⟩
      have c : s < 13 := by omega
      have c' : s < (answers s).length := c
      rw [if_pos c'] at hd
      exact k D H1 (sG.trans s8) hd
end
end Vf

set_option Elab.async false
set_option linter.all false
set_option maxRecDepth 100000
set_option maxHeartbeats 2000000
namespace Vf
open PySem PySem.Spec PyProof.Rows L2
section
variable {X : Cx} {f : Str} {e : Expr} {te : TE} {pos : Pos}
/-- what is kept under f, whichever class it is -/
def tGetY (K : PySem.W.Frag) (mg : Str → Option Value) (f : Str) (te : TE) : TE := fun σ H Q => te σ H fun x H1 => ∃ (a dx C fI : Addr) (n : Str) (v : V), x = .ref a ∧ XC K mg n C fI f ∧ H1 a = some (exo a C (some dx)) ∧ H1 dx = some (exd dx [(f, v)]) ∧ Q v H1
theorem pe_getY (he : PE X e te) (hb : attributeBase e f X.env (eval e X.env) = eval e X.env := by rfl) : PE X (.Attribute e f pos) (tGetY X.K X.mg f te) := by
  refine ⟨fun pins s σ H Q I h => ?_⟩
  refine attr_of hb (thn (he.run pins s σ H _ I h) fun u s1 ⟨x, H1, I1, rx, a, dx, C, fI, n, v, ex, T, ea, ed, q⟩ => ?_)
  subst ex
  cases rx
  obtain ⟨t1, ho⟩ := exo_at I1.hok ea
  obtain ⟨mA, hns, hr⟩ := exd_at I1.hok ed
  obtain ⟨od, hod, hl⟩ := lookIn_ns hns
  have l : List.lookup f [(f, v)] = some v := by simp [List.lookup]
  obtain ⟨u, hu, ru⟩ := RelO.some_of (v := v) (o := mA f) (by rw [← l]; exact hr f)
  have J : PySem.W.InstAt s1.heap a _ C (some od) := ⟨ho, rfl, rfl, hod⟩
  exact HandSPX.exc_get I1.kIn J T.ex.hg T.ex.hk T.ex.hs (PySem.W.findObj_own T.ex.hd T.no rfl (by rw [hl, hu])) (handed_of ru) ⟨v, H1, I1.tok _, ru, q⟩
end
section
variable {P : Program} {w : World} {K : PySem.W.Frag} {mg : Str → Option Value} {base : Heap}
def spKept (a : Adr) : Sp := fun vs H Q _ => ∃ (e : Addr) (s : Nat) (v : V), vs = [.ref e, .int s] ∧ s < 12 ∧ ErrAt a H s e v ∧ Q v H
theorem scKept : FnScope ["_law_e", "_law_spot"] ["_law_e", "_law_spot"] (defScope sKept) := ⟨rfl, rfl, rfl, by decide +kernel, rfl, by decide +kernel, by decide +kernel⟩
theorem ok_kept {a : Adr} {f : Addr} {fd : FuncData} (F : Fun K "_law_kept" "_law_kept" sKept f fd) (T : ErrTxt K mg a) : FnOk P w K mg base CX0 1 f fd ["_law_e", "_law_spot"] (spKept a) := by
  refine F.ok scKept (fun vs H Q E h => ?_) (fun cdv A outer s0 H vs Q E hr h => ?_)
  · obtain ⟨e, s, v, rfl, _⟩ := h
    rfl
  · obtain ⟨e, s, v, rfl, hs, ⟨dx, h1, h2⟩, q⟩ := h
    refine ⟨_, pss_cons (ps_if (pt_cmpR op_lt (pv 1) pe_int (nomark _)) (pss_one (ps_ret (pe_getY (pv 0)))) pss_nil)
      (pss_one (ps_ret (pe_ifExp (pt_cmpR op_lt (pv 1) pe_int (nomark _)) (pe_getY (pv 0)) (pe_getY (pv 0))))), ?_⟩
    refine ⟨_, rfl, _, _, rfl, rfl, _, rfl, ?_⟩
    match s, hs with
    | 0, _ => exact iteT ⟨_, rfl, e, dx, _, _, _, _, rfl, T.x0, h1, h2, q⟩
    | 1, _ => exact iteT ⟨_, rfl, e, dx, _, _, _, _, rfl, T.x1, h1, h2, q⟩
    | 2, _ => exact iteT ⟨_, rfl, e, dx, _, _, _, _, rfl, T.x2, h1, h2, q⟩
    | 3, _ => exact iteT ⟨_, rfl, e, dx, _, _, _, _, rfl, T.x3, h1, h2, q⟩
    | 4, _ => exact iteF ⟨_, rfl, _, _, rfl, rfl, _, rfl, iteT ⟨_, rfl, e, dx, _, _, _, _, rfl, T.x4, h1, h2, q⟩⟩
    | 5, _ => exact iteF ⟨_, rfl, _, _, rfl, rfl, _, rfl, iteT ⟨_, rfl, e, dx, _, _, _, _, rfl, T.x5, h1, h2, q⟩⟩
    | 6, _ => exact iteF ⟨_, rfl, _, _, rfl, rfl, _, rfl, iteT ⟨_, rfl, e, dx, _, _, _, _, rfl, T.x6, h1, h2, q⟩⟩
    | 7, _ => exact iteF ⟨_, rfl, _, _, rfl, rfl, _, rfl, iteT ⟨_, rfl, e, dx, _, _, _, _, rfl, T.x7, h1, h2, q⟩⟩
    | 8, _ => exact iteF ⟨_, rfl, _, _, rfl, rfl, _, rfl, iteT ⟨_, rfl, e, dx, _, _, _, _, rfl, T.x8, h1, h2, q⟩⟩
    | 9, _ => exact iteF ⟨_, rfl, _, _, rfl, rfl, _, rfl, iteT ⟨_, rfl, e, dx, _, _, _, _, rfl, T.x9, h1, h2, q⟩⟩
    | 10, _ => exact iteF ⟨_, rfl, _, _, rfl, rfl, _, rfl, iteF ⟨_, rfl, e, dx, _, _, _, _, rfl, T.x10, h1, h2, q⟩⟩
    | 11, _ => exact iteF ⟨_, rfl, _, _, rfl, rfl, _, rfl, iteF ⟨_, rfl, e, dx, _, _, _, _, rfl, T.x11, h1, h2, q⟩⟩
    | s + 12, h => omega
end
end Vf

set_option Elab.async false
set_option linter.all false
set_option maxRecDepth 100000
set_option maxHeartbeats 4000000
namespace Vf
open PySem PySem.Spec PyProof.Rows L2
section
variable {P : Program} {w : World} {K : PySem.W.Frag} {mg : Str → Option Value} {base : Heap}
abbrev nLaw : List Str := ["_law_script", "_law_turn", "_law_deal_here", "_law_spot", "_law_thing_here", "_law_loose", "_law_e", "_law_bare"]
theorem scLaw : FnScope nLaw ["_law_script"] (defScope sLaw) := ⟨rfl, rfl, rfl, by decide +kernel, rfl, by decide +kernel, by decide +kernel⟩
def spLaw (K : PySem.W.Frag) : Sp := fun vs H Q _ => ∃ (a : Addr) (ns : List Int), vs = [.ref a] ∧ SqL K H a (ns.map V.int) ∧ ns.length ≤ 63 ∧ ∀ H', Q (.bl true) H'
structure TxtL (K : PySem.W.Frag) (mg : Str → Option Value) (a : Adr) (fL fD fP fT fE fW fN fK fS fG : Addr) (dL dD dP dT dE dW dN dK dS dG : FuncData) : Prop where
  T0 : Txt0 K mg fD fP fT dD dP dT
  T : ErrTxt K mg a
  FE : Fun K "_law_deal" "_law_deal" sDeal fE dE
  bE : Binds K dE ["_law_script", "_law_base"] []
  gE : mg "_law_deal" = some (.ref fE)
  FW : Fun K "_law_by_word" "_law_by_word" sWord fW dW
  bW : Binds K dW ["_law_spot", "_law_thing_here"] []
  gW : mg "_law_by_word" = some (.ref fW)
  FN : Fun K "_law_by_number" "_law_by_number" sNumb fN dN
  bN : Binds K dN ["_law_spot", "_law_thing_here"] []
  gN : mg "_law_by_number" = some (.ref fN)
  FK : Fun K "_law_by_keyword" "_law_by_keyword" sKeyw fK dK
  bK : Binds K dK ["_law_spot", "_law_thing_here"] []
  gK : mg "_law_by_keyword" = some (.ref fK)
  FS : Fun K "_law_sorts" "_law_sorts" sSort fS dS
  bS : Binds K dS ["_law_e"] []
  gS : mg "_law_sorts" = some (.ref fS)
  FG : Fun K "_law_kept" "_law_kept" sKept fG dG
  bG : Binds K dG ["_law_e", "_law_spot"] []
  gG : mg "_law_kept" = some (.ref fG)
  FL : Fun K "law" "law" sLaw fL dL
  mRp : mg "repr" = none
  mMx : mg "max" = none
  mMn : mg "min" = none
theorem ErrAt.xat {a : Adr} {H : Hp} {s : Nat} {e : Addr} {v : V} (h : ErrAt a H s e v) : XAt H e (cof a s) := by
  obtain ⟨dx, h1, h2⟩ := h
  exact .inl ⟨_, dx, _, rfl, h1, h2⟩
theorem ok_law {a : Adr} {fL fD fP fT fE fW fN fK fS fG : Addr} {dL dD dP dT dE dW dN dK dS dG : FuncData} (Z : TxtL K mg a fL fD fP fT fE fW fN fK fS fG dL dD dP dT dE dW dN dK dS dG) : FnG P w K mg base 12 fL dL ["_law_script"] (spLaw K) := by
  have T := Z.T
  have GE : FnOk P w K mg base CX0 1 fE dE ["_law_script", "_law_base"] (spDeal K) := ok_deal Z.FE Z.T0.B
  have G7 : FnOk P w K mg base CX0 10 fT dT ["_law_deal_here", "_law_deep"] (spThing K 7) := ok_thing Z.T0 7 (by decide)
  have G3 : FnOk P w K mg base CX0 6 fT dT ["_law_deal_here", "_law_deep"] (spThing K 3) := ok_thing Z.T0 3 (by decide)
  have GW : FnOk P w K mg base CX0 3 fW dW ["_law_spot", "_law_thing_here"] (spBy a 0 4) := ok_word Z.FW T
  have GN : FnOk P w K mg base CX0 3 fN dN ["_law_spot", "_law_thing_here"] (spBy a 4 12) := ok_numb Z.FN T
  have GK : FnOk P w K mg base CX0 3 fK dK ["_law_spot", "_law_thing_here"] (spBy a 0 12) := ok_keyw Z.FK T
  have GS : FnOk P w K mg base CX0 1 fS dS ["_law_e"] (spSorts a) := ok_sorts Z.FS T
  have GG : FnOk P w K mg base CX0 1 fG dG ["_law_e", "_law_spot"] (spKept a) := ok_kept Z.FG T
  refine okG Z.FL scLaw (fun vs H Q E h => ?_) (fun cdv A outer s0 H vs Q E hr hgd h => ?_)
  · obtain ⟨a, ns, rfl, _⟩ := h
    rfl
  · obtain ⟨q, ns, rfl, hS, hl, k⟩ := h
    have h1 : Room 1 _ := hr.mono (by decide)
    have h3 : Room 3 _ := hr.mono (by decide)
    have h6 : Room 6 _ := hr.mono (by decide)
    have h10 : Room 10 _ := hr.mono (by decide)
    have hu := hr.units
    have hu2 := hr.un
    refine ⟨_, pss_cons (ps_for PassesOwn.never rfl (pi_range1 rfl Z.T0.B.range (pa_cons (pe_callB (call_max2 rfl) (by rfl) Z.mMx (by decide +kernel) (pa_cons pe_int (pa_cons (pe_callB (call_min2 rfl) (by rfl) Z.mMn (by decide +kernel) (pa_cons pe_int (pa_cons
            (pe_callB call_len_seq (by rfl) Z.T0.B.len PySem.boot_len (pa_cons (pv 0) pa_nil)) pa_nil))) pa_nil))) pa_nil)) (pg_name (i := 1) scLaw.nd rfl (.inl rfl))
        (pss_cons (ps_set (i := 2) scLaw.nd rfl (.inl rfl) (pe_call GE h1 rfl Z.gE Z.FE.kp Z.bE .nil pass0 (pa_cons (pv 0) (pa_cons (pv 1) pa_nil))))
        (pss_one (ps_for PassesOwn.never rfl (pi_range1 rfl Z.T0.B.range (pa_cons pe_int pa_nil)) (pg_name (i := 3) scLaw.nd rfl (.inl rfl))
          (pss_cons (ps_par (i := 4) (j := 5) rfl scLaw.nd rfl rfl (by decide) rfl rfl (pa_cons (pe_call G7 h10 rfl Z.T0.gT Z.T0.FT.kp Z.T0.bT .nil pass0 (pa_cons (pv 2) (pa_cons pe_int pa_nil)))
              (pa_cons (pe_lst (pa_cons (pe_call G3 h6 rfl Z.T0.gT Z.T0.FT.kp Z.T0.bT .nil pass0 (pa_cons (pv 2) (pa_cons pe_int pa_nil))) pa_nil)) pa_nil)) (by rfl))
          (pss_cons (ps_set (i := 6) scLaw.nd rfl (.inl rfl) (pe_ifExp (pt_cmpR op_lt (pv 3) pe_int (nomark _)) (pe_call GW h3 rfl Z.gW Z.FW.kp Z.bW .nil pass0 (pa_cons (pv 3) (pa_cons (pv 4) pa_nil)))
              (pe_call GN h3 rfl Z.gN Z.FN.kp Z.bN .nil pass0 (pa_cons (pv 3) (pa_cons (pv 4) pa_nil)))))
          (pss_cons (ps_if (PW.pt (pw_or (pt_cmpR (op_neD hu) (pe_call GS h1 rfl Z.gS Z.FS.kp Z.bS .nil pass0 (pa_cons (pv 6) pa_nil)) (pe_lst (pa_cons (pv 3) pa_nil)) (nomark _))
              (pw_or1 (pt_cmpR op_ne (pe_callB (cr_repr hgd (room110 hr)) (by rfl) Z.mRp (by decide +kernel) (pa_cons (pe_call GG h1 rfl Z.gG Z.FG.kp Z.bG .nil pass0 (pa_cons (pv 6) (pa_cons (pv 3) pa_nil))) pa_nil))
                (pe_callB (cr_repr hgd (room110 hr)) (by rfl) Z.mRp (by decide +kernel) (pa_cons (pv 4) pa_nil)) (nomark _))))) (pss_one (ps_ret pe_bl)) pss_nil)
          (pss_cons (ps_if (PW.pt (pw_or (pt_cmpR op_ne (pe_callB call_isX (by rfl) T.mIs (by decide +kernel) (pa_cons (pv 6) (pa_cons (pe_glob (v := .ref a.pe) rfl T.gPE rfl) pa_nil))) (pe_cmpR op_lt (pv 3) pe_int (nomark _)) (nomark _))
              (pw_or1 (pt_cmpR op_ne (pe_callB call_isX (by rfl) T.mIs (by decide +kernel) (pa_cons (pv 6) (pa_cons (pe_bltn (v := .ty "ValueError") (by rfl) T.mVE (by decide +kernel) rfl) pa_nil))) (pe_cmpR op_lt (pv 3) pe_int (nomark _)) (nomark _))))) (pss_one (ps_ret pe_bl)) pss_nil)
          (pss_cons (ps_if (PW.pt (pw_or (pt_cmpR op_ne (pe_callB call_isX (by rfl) T.mIs (by decide +kernel) (pa_cons (pv 6) (pa_cons (pe_bltn (v := .ty "IndexError") (by rfl) T.mIE (by decide +kernel) rfl) pa_nil))) (pe_cmpR op_eq (pv 3) pe_int (nomark _)) (nomark _))
              (pw_or1 (pt_cmpR op_ne (pe_callB call_isX (by rfl) T.mIs (by decide +kernel) (pa_cons (pv 6) (pa_cons (pe_bltn (v := .ty "KeyError") (by rfl) T.mKE (by decide +kernel) rfl) pa_nil))) (pe_cmpR op_gt (pv 3) pe_int (nomark _)) (nomark _))))) (pss_one (ps_ret pe_bl)) pss_nil)
          (pss_cons (ps_set (i := 6) scLaw.nd rfl (.inl rfl) (pe_call GK h3 rfl Z.gK Z.FK.kp Z.bK .nil pass0 (pa_cons (pv 3) (pa_cons (pv 5) pa_nil))))
          (pss_cons (ps_expr (pe_bm PySem.F.plainAttrs_list PySem.F.slot_list_append PySem.F.type_list_append mt_append (pv 5) (pa_cons pe_str pa_nil)))
          (pss_one (ps_if (PW.pt (pw_or (pt_cmpR (op_neD hu) (pe_call GS h1 rfl Z.gS Z.FS.kp Z.bS .nil pass0 (pa_cons (pv 6) pa_nil)) (pe_lst (pa_cons (pv 3) pa_nil)) (nomark _))
              (pw_or1 (pt_cmpR (op_neD hu) (pe_call GG h1 rfl Z.gG Z.FG.kp Z.bG .nil pass0 (pa_cons (pv 6) (pa_cons (pv 3) pa_nil))) (pv 5) (nomark _))))) (pss_one (ps_ret pe_bl)) pss_nil)))))))))))))
      (pss_cons (ps_set (i := 7) scLaw.nd rfl (.inl rfl) (pe_mk0 PySem.F.excBase_ValueError T.q12 T.g12 T.k12 rfl))
      (pss_one (ps_ret (pe_and (pe_cmpR (op_eqD hu) (pe_call GS h1 rfl Z.gS Z.FS.kp Z.bS .nil pass0 (pa_cons (pv 7) pa_nil)) (pe_lst (pa_cons pe_int pa_nil)) (nomark _))
          (pe_and (pe_callB call_isX (by rfl) T.mIs (by decide +kernel) (pa_cons (pv 7) (pa_cons (pe_glob (v := .ref a.pe) rfl T.gPE rfl) pa_nil)))
            (pe_one (pe_callB call_isX (by rfl) T.mIs (by decide +kernel) (pa_cons (pv 7) (pa_cons (pe_bltn (v := .ty "ValueError") (by rfl) T.mVE (by decide +kernel) rfl) pa_nil))))))))), ?_⟩
    -- the outer loop
    refine ⟨_, rfl, q, _, rfl, .inl hS, _, _, rfl, _, _, rfl, _, rfl, (by split <;> (try split) <;> omega), (by split <;> (try split) <;> omega), ?_⟩
    refine for_range (lo := 0) (fun i σ H' => ∃ v1 v2 v3 v4 v5 v6 : Option V, σ = [some (.ref q), v1, v2, v3, v4, v5, v6, none] ∧ Same H H') ⟨none, none, none, none, none, none, rfl, Same.refl _⟩ ?_ ?_
    · rintro i σ H1 hi ⟨v1, v2, v3, v4, v5, v6, rfl, s1⟩
      have hi4 : i < 4 := by
        revert hi
        split <;> (try split) <;> omega
      rw [Int.zero_add]
      refine ⟨_, rfl, _, rfl, q, ns, _, rfl, s1.seq hS, hl, by omega, by omega, fun p c H2 hp hc s2 D => ?_⟩
      refine ⟨_, rfl, by decide, by decide, for_range (lo := 0) (n := 12) (fun s σ H' => ∃ v3 v4 v5 v6 : Option V, σ = [some (.ref q), some (.int i), some (.ref p), v3, v4, v5, v6, none] ∧ DealAt H' p c ∧ Same (hide p c H2) (hide p c H'))
        ⟨_, _, _, _, rfl, D, Same.refl _⟩ ?_ ?_⟩
      · rintro s σ H3 hs ⟨v3, v4, v5, v6, rfl, D3, s3⟩
        rw [Int.zero_add]
        have hs12 : s ≤ 12 := by omega
        refine ⟨_, rfl, p, c, rfl, D3, fun v1 d1 H4 e1 g1 D4 s4 => ⟨_, rfl, p, c, rfl, D4, fun v2 d2 H5 e2 g2 D5 s5 => ⟨by show 1 ≤ sizeLine; decide, fun lo hlo => ⟨_, _, rfl, ?_⟩⟩⟩⟩
        have sl := same_new (o := HO.lst [v2]) hlo
        refine ⟨_, rfl, _, _, rfl, rfl, _, rfl, ?_⟩
        refine ite2 (fun c4 => ⟨_, rfl, _, rfl, s, v1, rfl, Nat.zero_le _, (by have := of_decide_eq_true c4; omega), fun e H6 s6 z6 => ?_⟩) (fun c4 => ⟨_, rfl, _, rfl, s, v1, rfl, (by have : ¬ (s : Int) < 4 := fun z => c4 (decide_eq_true z); omega), hs, fun e H6 s6 z6 => ?_⟩)
        all_goals
          refine ⟨_, rfl, e, s, rfl, hs12, z6.xat, fun l H7 s7 hl7 => ⟨_, rfl, (by show 1 ≤ sizeLine; decide), fun l2 hl2 => ?_⟩⟩
          have s8 := same_new (o := HO.lst [.int s]) hl2
          have el : ∀ G : Hp, ∀ l l' : Addr, G l = some (.lst [.int s]) → G l' = some (.lst [.int s]) → ∀ Q : VK, Q (.bl false) G → rNeD K (.ref l) (.ref l') G Q := by
            intro G l l' f1 f2 Q q
            have sd : SeqAt.shaped (.list [PyData.int s]) = true := shaped_ints [(s : Int)]
            refine ⟨.list [.int s], .list [.int s], .lst (SqL.of f1) (.cons (.int _) .nil), .lst (SqL.of f2) (.cons (.int _) .nil), sd, sd, ?_⟩
            rw [SeqAt.eqv_refl _ (SeqAt.canLay_of_shaped sd)]
            exact q
          refine el _ _ _ (s8 _ _ hl7) upd_same _ ⟨false, rfl, iteF ?_⟩
          have t5 : Same H5 (upd H7 l2 (.lst [.int s])) := ((sl.trans s6).trans s7).trans s8
          have dv1 : Dp K (upd H7 l2 (.lst [.int s])) v1 d1 := dp_mono (((fresh_step D3.hp.1 D3.hp.2 s5).trans fresh_le).trans t5) _ _ e1
          have z8 := (z6.mono s7).mono s8
          have len1 : d1.shown.length ≤ sizeLine := Nat.le_trans g1.len (by decide)
          have dep1 : d1.depth ≤ 100 := Nat.le_trans g1.dep (by decide)
          refine ⟨_, rfl, _, rfl, e, s, v1, rfl, hs, z8, v1, d1, rfl, dv1, g1.sho, g1.nod, dep1, len1, _, rfl, v1, d1, rfl, dv1, g1.sho, g1.nod, dep1, len1, rfl, _, rfl, iteNS rfl ?_⟩
          -- of which classes it is
          have x8 := z8.xat
          refine ⟨_, rfl, e, _, _, _, _, rfl, x8, T.ex s hs12, .own _, T.kP s hs12, _, rfl, _, _, rfl, rfl, rfl, _, rfl, iteNS (congrArg V.bl (decide_eq_decide.mpr (by omega))) ?_⟩
          refine ⟨_, rfl, e, _, _, _, _, rfl, x8, T.ex s hs12, .ty _, T.kV s hs12, _, rfl, _, _, rfl, rfl, rfl, _, rfl, iteNS (congrArg V.bl (decide_eq_decide.mpr (by omega))) ?_⟩
          refine ⟨_, rfl, e, _, _, _, _, rfl, x8, T.ex s hs12, .ty _, T.kI s hs12, _, rfl, rfl, rfl, _, rfl, iteNS (congrArg V.bl (decide_eq_decide.mpr ⟨fun z => by rw [z]; rfl, fun z => by injection z with z; omega⟩)) ?_⟩
          refine ⟨_, rfl, e, _, _, _, _, rfl, x8, T.ex s hs12, .ty _, T.kK s hs12, _, rfl, _, _, rfl, rfl, rfl, _, rfl, iteNS (congrArg V.bl (decide_eq_decide.mpr (by omega))) ?_⟩
          -- by its keyword
          refine ⟨_, rfl, _, rfl, s, .ref lo, rfl, Nat.zero_le _, hs, fun e' H9 s9 z9 => ?_⟩
          have t9 : Same (upd H5 lo (.lst [v2])) H9 := ((s6.trans s7).trans s8).trans s9
          have hlo9 : H9 lo = some (.lst [v2]) := t9 _ _ upd_same
          refine ⟨_, rfl, .inl ⟨rfl, _, SqL.of hlo9⟩, lo, _, _, rfl, rfl, hlo9, (by show 1 < sizeLine; decide), ?_⟩
          have dv2 : Dp K (upd H9 lo (.lst ([v2] ++ [.str "late"]))) v2 d2 := dp_mono (fun b o z => by
            have z5 := fresh_le _ _ z
            rw [upd_ne (ne_of_none z5 hlo)]
            exact (sl.trans t9) _ _ z5) _ _ e2
          have z10 : ErrAt a (upd H9 lo (.lst ([v2] ++ [.str "late"]))) s e' (.ref lo) := by
            obtain ⟨dx, f1, f2⟩ := z9
            refine ⟨dx, ?_, ?_⟩
            · rw [upd_ne (ne_of f1 hlo9 (by intro z; have z' : HO.ext _ = HO.lst _ := z; cases z'))]
              exact f1
            · rw [upd_ne (ne_of f2 hlo9 (by intro z; have z' : HO.ext _ = HO.lst _ := z; cases z'))]
              exact f2
          refine ⟨_, rfl, e', s, rfl, hs12, z10.xat, fun l9 H10 s10 hl9 => ⟨_, rfl, (by show 1 ≤ sizeLine; decide), fun l10 hl10 => ?_⟩⟩
          have s11 := same_new (o := HO.lst [.int s]) hl10
          refine el _ _ _ (s11 _ _ hl9) upd_same _ ⟨false, rfl, iteF ?_⟩
          have s12 := s10.trans s11
          have gd : Good 4 (.list [d2, .str "late"]) := good_list (fun d hd => by
            rcases List.mem_cons.mp hd with rfl | hd
            · exact g2
            · rw [List.mem_singleton.mp hd]
              exact good_late) (by show 2 ≤ 3; decide)
          have dl : Dp K (upd H10 l10 (.lst [.int s])) (.ref lo) (.list [d2, .str "late"]) := dp_mono s12 _ _ (.lst (SqL.of upd_same) (.cons dv2 (.cons (.str _) .nil)))
          have sd := gd.shaped (by decide)
          refine ⟨_, rfl, _, rfl, e', s, .ref lo, rfl, hs, z10.mono s12, _, rfl, _, _, dl, dl, sd, sd, ?_⟩
          rw [SeqAt.eqv_refl _ gd.lay]
          refine ⟨_, rfl, iteF ?_⟩
          have n := D5.ne hlo
          have h35 : Same (hide p c H3) (hide p c (upd H10 l10 (.lst [.int s]))) := (s4.trans s5).trans (fun b o z => by
            obtain ⟨b1, b2, z5⟩ := hide_some z
            rw [hide_ne b1 b2]
            refine s12 _ _ ?_
            rw [upd_ne (ne_of_none z5 hlo)]
            exact (sl.trans t9) _ _ z5)
          refine ⟨_, _, _, _, rfl, ?_, s3.trans h35⟩
          obtain ⟨bs, st, f1, f2, r⟩ := D5
          refine ⟨bs, st, s12 _ _ ?_, s12 _ _ ?_, r⟩
          · rw [upd_ne (Ne.symm n.1)]
            exact (sl.trans t9) _ _ f1
          · rw [upd_ne (Ne.symm n.2)]
            exact (sl.trans t9) _ _ f2
      · rintro σ H3 ⟨v3, v4, v5, v6, rfl, D3, s3⟩
        exact ⟨_, _, _, _, _, _, rfl, (same_hide (s1.trans s2) (s1.free hp) (s1.free hc)).trans (s3.trans hide_le)⟩
    · rintro σ H1 ⟨v1, v2, v3, v4, v5, v6, rfl, s1⟩
      intro b hb
      have xb : XAt (upd H1 b (ExO (.ref a.c12) b)) b (cof a 12) := .inr upd_same
      refine ⟨_, rfl, b, 12, rfl, Nat.le_refl _, xb, fun l H2 s2 hl2 => ⟨(by show 1 ≤ sizeLine; decide), fun l3 hl3 => ?_⟩⟩
      have s3 := same_new (o := HO.lst [.int 12]) hl3
      have sd : SeqAt.shaped (.list [PyData.int 12]) = true := shaped_ints [12]
      refine ⟨.list [.int 12], .list [.int 12], .lst (SqL.of (s3 _ _ hl2)) (.cons (.int _) .nil), .lst (SqL.of upd_same) (.cons (.int _) .nil), sd, sd, ?_⟩
      rw [SeqAt.eqv_refl _ (SeqAt.canLay_of_shaped sd)]
      have x3 := (xb.mono s2).mono s3
      refine ⟨true, rfl, iteT ?_⟩
      refine ⟨_, rfl, b, _, _, _, _, rfl, x3, T.ex 12 (Nat.le_refl _), .own _, T.kP 12 (Nat.le_refl _), true, rfl, iteT ?_⟩
      exact ⟨_, rfl, b, _, _, _, _, rfl, x3, T.ex 12 (Nat.le_refl _), .ty _, T.kV 12 (Nat.le_refl _), k _⟩
end
end Vf

set_option Elab.async false
set_option linter.all false
set_option maxRecDepth 100000
set_option maxHeartbeats 4000000
namespace Vf
open PySem PySem.Spec PyProof.Rows L2
/-- a def of the text as the written part holds it -/
structure FnRaw (K : PySem.W.Frag) (x qual : Str) (st : Stmt) (f : Addr) : Prop where
  ex : ∃ (oc : Value) (od : Option Addr) (kV dc pm : Value) (an : Option Addr) (cd ct : Value) (sl : Array (Option Value)), K.lookup f = some ⟨oc, od, .func (PySem.W.fnOf x qual (defArgs st) (defBody st) (defScope st) .none kV dc pm an cd ct), sl⟩ ∧ PySem.W.codeIn K cd qual = true
  kp : PySem.W.keepIn K (.ref f) = true
theorem FnRaw.fn {K : PySem.W.Frag} {x qual : Str} {st : Stmt} {f : Addr} (r : FnRaw K x qual st f) : ∃ fd, Fun K x qual st f fd := by
  obtain ⟨oc, od, kV, dc, pm, an, cd, ct, sl, h, c⟩ := r.ex
  exact ⟨_, fun_mk h c r.kp⟩
/-- an error class over another as the written part holds it -/
structure CRaw (K : PySem.W.Frag) (C : Addr) (bm : List Value) (newId : String) : Prop where
  cls : ∃ (nm q : Str) (N : Addr) (bs : List Value) (sn : List Str) (sub : List Value) (ab : Bool) (col : Option Bool) (dd : Option Addr) (k0 k1 k2 k3 k5 : Option Value), K.lookup C = some (excClassObj nm q C N bs bm true sn sub ab col dd k0 k1 k2 k3 k5 newId)
  kC : PySem.W.keepIn K (.ref C) = true
  hg : PySem.W.findIn K (.ref C) "__getattribute__" = some (some (.builtin "BaseException.__getattribute__"))
  hk : PySem.W.findIn K (.ref C) "__getattr__" = some none
  hs : PySem.W.subIn K (.ref C) (.type "BaseException") = some true
  hd : PySem.W.hasDictIn K C = true
  ha : PySem.W.findIn K (.ref C) "__class__" = some (some (.builtin "object.__class__"))
  hm : PySem.W.mroIn K C (.type "object") = some true
structure XRaw (K : PySem.W.Frag) (C fI : Addr) (f : Str) : Prop where
  sa : PySem.W.findIn K (.ref C) "__setattr__" = some (some (.builtin "object.__setattr__"))
  no : PySem.W.findIn K (.ref C) f = some none
  iC : PySem.W.findIn K (.ref C) "__init__" = some (some (.ref fI))
  tI : PySem.W.typeIn K (.ref fI) = some (.type "function")
section
variable {K : PySem.W.Frag} {C C' : Addr} {bm bm' : List Value} {n n' : String}
theorem CRaw.mro (r : CRaw K C bm n) (v : Value) : PySem.W.mroIn K C v = some ((Value.ref C :: bm).contains v) := by
  obtain ⟨nm, q, N, bs, sn, sub, ab, col, dd, k0, k1, k2, k3, k5, h⟩ := r.cls
  unfold PySem.W.mroIn PySem.W.clsIn
  rw [h]
  rfl
theorem CRaw.kit (r : CRaw K C bm n) (r' : CRaw K C' bm' n') : PySem.W.kitOne K (.ref C) (.ref C') = some ((Value.ref C :: bm).contains (.ref C')) := by
  obtain ⟨nm, q, N, bs, sn, sub, ab, col, dd, k0, k1, k2, k3, k5, h⟩ := r'.cls
  unfold PySem.W.kitOne
  by_cases e : (Value.ref C == Value.ref C') = true
  · rw [if_pos e]
    have e' : Value.ref C' = Value.ref C := (beq_iff_eq.mp e).symm
    rw [List.contains_cons, e', beq_self_eq_true, Bool.true_or]
  · rw [if_neg e]
    have h1 : (PySem.W.clsIn K C').isSome = true := by
      unfold PySem.W.clsIn
      rw [h]
      rfl
    have h2 : PySem.W.typeIn K (.ref C') = some (.type "type") := by
      show (K.lookup C').map _ = _
      rw [h]
      rfl
    have h3 : ((PySem.W.clsIn K C').isSome && PySem.W.typeIn K (.ref C') == some (.type "type")) = true := by
      rw [h1, h2]
      decide
    show (if ((PySem.W.clsIn K C').isSome && PySem.W.typeIn K (.ref C') == some (.type "type")) = true then PySem.W.subIn K (.ref C) (.ref C') else none) = _
    rw [if_pos h3]
    exact r.mro _
theorem CRaw.kitT (r : CRaw K C bm n) {T : String} (hT : PySem.W.kitMeta T = true) : PySem.W.kitOne K (.ref C) (.type T) = some ((Value.ref C :: bm).contains (.type T)) := by
  unfold PySem.W.kitOne
  rw [if_neg (show ¬ (Value.ref C == Value.type T) = true from fun z => by cases beq_iff_eq.mp z)]
  show (if PySem.W.kitMeta T = true then PySem.W.subIn K (.ref C) (.type T) else none) = _
  rw [if_pos hT]
  exact r.mro _
theorem CRaw.exc (r : CRaw K C bm n) (hn : PySem.W.specialIn K (.builtin "object.__class__") "__get__" = some (some (.builtin "getset_descriptor.__get__"))) (ht : PySem.W.takesIn K (.builtin "object.__class__") = some true) : ExcC K C :=
  ⟨r.hg, r.hk, r.hs, r.hd, r.ha, hn, ht, r.hm⟩
theorem beq_ref {a b : Addr} : (Value.ref a == Value.ref b) = decide (a = b) := by
  by_cases h : a = b
  · subst h
    simp
  · rw [decide_eq_false h]
    exact beq_eq_false_iff_ne.mpr fun z => h (Value.ref.inj z)
theorem has_ref {l : List Value} (h : ∀ v ∈ l, ∃ T, v = Value.type T) (a : Addr) : l.contains (.ref a) = false := by
  rw [List.contains_eq_any_beq, List.any_eq_false]
  intro v hv
  obtain ⟨T, rfl⟩ := h v hv
  intro z
  cases beq_iff_eq.mp z
theorem types_only (l : List String) : ∀ v ∈ l.map Value.type, ∃ T, v = Value.type T := fun v hv => by
  obtain ⟨T, _, rfl⟩ := List.mem_map.mp hv
  exact ⟨T, rfl⟩
theorem xbinds {x qual : Str} {st : Stmt} {f : Addr} {fd : FuncData} {g : Str} (F : Fun K x qual st f fd)
    (h1 : ∀ (kV doc pm : Value) (an : Option Addr) (cdv ct a v : Value), bindArgs (PySem.W.fnOf x qual (defArgs st) (defBody st) (defScope st) .none kV doc pm an cdv ct) ⟨[a, v], []⟩ = pure ([(("self" : Str), a), (g, v)] : List (Str × Value)))
    (h2 : ∀ (kV doc pm : Value) (an : Option Addr) (cdv ct a v : Value), bindArgs (PySem.W.fnOf x qual (defArgs st) (defBody st) (defScope st) .none kV doc pm an cdv ct) ⟨[a], [(g, v)]⟩ = pure ([(("self" : Str), a), (g, v)] : List (Str × Value))) : XBinds K fd g := by
  obtain ⟨oc, od, kV, doc, pm, an, cdv, ct, osl, rfl, lk, hcd⟩ := F.ex
  exact fun s a v _ => ⟨.of_eq (h1 kV doc pm an cdv ct a v), .of_eq (h2 kV doc pm an cdv ct a v)⟩
end
theorem chainV {pe : Addr} : Chain "ValueError" [.ref pe, .type "ValueError", .type "Exception", .type "BaseException", .type "object"] := ⟨rfl, rfl, rfl⟩
theorem chainI : Chain "IndexError" [.type "IndexError", .type "LookupError", .type "Exception", .type "BaseException", .type "object"] := ⟨by decide +kernel, by decide +kernel, by decide +kernel⟩
theorem chainK : Chain "LookupError" [.type "KeyError", .type "LookupError", .type "Exception", .type "BaseException", .type "object"] := ⟨by decide +kernel, by decide +kernel, by decide +kernel⟩
theorem passesKey (self : Value) : refuseLoop self "__setattr__" [.type "KeyError", .type "LookupError", .type "Exception", .type "BaseException", .type "object"] = pure () := by kernel_rfl
theorem passesIx (self : Value) : refuseLoop self "__setattr__" [.type "IndexError", .type "LookupError", .type "Exception", .type "BaseException", .type "object"] = pure () := by kernel_rfl
section
variable {K : PySem.W.Frag} {mg : Str → Option Value} {x : Str} {C fI pe : Addr} {f : Str}
theorem xcV (g : mg x = some (.ref C)) (r : CRaw K C [.ref pe, .type "ValueError", .type "Exception", .type "BaseException", .type "object"] "ValueError.__new__") (y : XRaw K C fI f) (e : ExcC K C) : XC K mg x C fI f := by
  obtain ⟨nm, q, N, bs, sn, sub, ab, col, dd, k0, k1, k2, k3, k5, h⟩ := r.cls
  exact ⟨g, ⟨_, _, _, _, nm, q, N, bs, _, sn, sub, ab, col, dd, k0, k1, k2, k3, k5, PySem.F.excBase_ValueError, chainV, h, (by first | rfl | decide +kernel), fun self => (refuseLoop_ref _ _ _ _).trans (PySem.F.store_ValueError.passes self)⟩, y.sa, y.no, r.kC, y.iC, y.tI, e⟩
theorem xcI (g : mg x = some (.ref C)) (r : CRaw K C [.type "IndexError", .type "LookupError", .type "Exception", .type "BaseException", .type "object"] "IndexError.__new__") (y : XRaw K C fI f) (e : ExcC K C) : XC K mg x C fI f := by
  obtain ⟨nm, q, N, bs, sn, sub, ab, col, dd, k0, k1, k2, k3, k5, h⟩ := r.cls
  exact ⟨g, ⟨_, _, _, _, nm, q, N, bs, _, sn, sub, ab, col, dd, k0, k1, k2, k3, k5, PySem.F.excBase_IndexError, chainI, h, (by first | rfl | decide +kernel), fun self => passesIx self⟩, y.sa, y.no, r.kC, y.iC, y.tI, e⟩
theorem xcK (g : mg x = some (.ref C)) (r : CRaw K C [.type "KeyError", .type "LookupError", .type "Exception", .type "BaseException", .type "object"] "LookupError.__new__") (y : XRaw K C fI f) (e : ExcC K C) : XC K mg x C fI f := by
  obtain ⟨nm, q, N, bs, sn, sub, ab, col, dd, k0, k1, k2, k3, k5, h⟩ := r.cls
  exact ⟨g, ⟨_, _, _, _, nm, q, N, bs, _, sn, sub, ab, col, dd, k0, k1, k2, k3, k5, PySem.F.excBase_LookupError, chainK, h, (by first | rfl | decide +kernel), fun self => passesKey self⟩, y.sa, y.no, r.kC, y.iC, y.tI, e⟩
end
end Vf

set_option Elab.async false
set_option linter.all false
set_option maxRecDepth 100000
set_option maxHeartbeats 4000000
namespace Vf
open PySem PySem.Spec PyProof.Rows L2
theorem all_mk {l : PySem.W.OpenLaw} {w : World} {K : PySem.W.Frag} {h : Heap} {mg : Str → Option Value} {fa c0 c1 c2 c3 c4 c5 c6 c7 c8 c9 c10 c11 c12 i0 i1 i2 i3 i4 i5 i6 i7 i8 i9 i10 i11 pe fL fD fP fT fE fW fN fK fS fG : Addr} (X : K.In h) (G : h.Ns mainGlobals mg) (hfa : mg "law" = some (.ref fa))
    (a0 : PySem.W.nsIn K mainGlobals "InvalidStep" = some (some (.ref c0)))
    (a1 : PySem.W.nsIn K mainGlobals "InvalidWork" = some (some (.ref c1)))
    (a2 : PySem.W.nsIn K mainGlobals "InvalidKitchen" = some (some (.ref c2)))
    (a3 : PySem.W.nsIn K mainGlobals "InvalidBook" = some (some (.ref c3)))
    (a4 : PySem.W.nsIn K mainGlobals "InvalidText" = some (some (.ref c4)))
    (a5 : PySem.W.nsIn K mainGlobals "InvalidRow" = some (some (.ref c5)))
    (a6 : PySem.W.nsIn K mainGlobals "InvalidWay" = some (some (.ref c6)))
    (a7 : PySem.W.nsIn K mainGlobals "InvalidStory" = some (some (.ref c7)))
    (a8 : PySem.W.nsIn K mainGlobals "Refused" = some (some (.ref c8)))
    (a9 : PySem.W.nsIn K mainGlobals "NoLimit" = some (some (.ref c9)))
    (a10 : PySem.W.nsIn K mainGlobals "NoStep" = some (some (.ref c10)))
    (a11 : PySem.W.nsIn K mainGlobals "NoPlace" = some (some (.ref c11)))
    (a12 : PySem.W.nsIn K mainGlobals "InvalidCommand" = some (some (.ref c12)))
    (ape : PySem.W.nsIn K mainGlobals "PlateError" = some (some (.ref pe)))
    (y0 : XRaw K c0 i0 "word")
    (y1 : XRaw K c1 i1 "word")
    (y2 : XRaw K c2 i2 "word")
    (y3 : XRaw K c3 i3 "word")
    (y4 : XRaw K c4 i4 "at")
    (y5 : XRaw K c5 i5 "at")
    (y6 : XRaw K c6 i6 "at")
    (y7 : XRaw K c7 i7 "at")
    (y8 : XRaw K c8 i8 "at")
    (y9 : XRaw K c9 i9 "at")
    (y10 : XRaw K c10 i10 "name")
    (y11 : XRaw K c11 i11 "name")
    (r0 : CRaw K c0 [.ref pe, .type "ValueError", .type "Exception", .type "BaseException", .type "object"] "ValueError.__new__")
    (n0 : FnRaw K "__init__" "InvalidStep.__init__" (sI 2) i0)
    (r1 : CRaw K c1 [.ref pe, .type "ValueError", .type "Exception", .type "BaseException", .type "object"] "ValueError.__new__")
    (n1 : FnRaw K "__init__" "InvalidWork.__init__" (sI 3) i1)
    (r2 : CRaw K c2 [.ref pe, .type "ValueError", .type "Exception", .type "BaseException", .type "object"] "ValueError.__new__")
    (n2 : FnRaw K "__init__" "InvalidKitchen.__init__" (sI 4) i2)
    (r3 : CRaw K c3 [.ref pe, .type "ValueError", .type "Exception", .type "BaseException", .type "object"] "ValueError.__new__")
    (n3 : FnRaw K "__init__" "InvalidBook.__init__" (sI 5) i3)
    (r4 : CRaw K c4 [.ref pe, .type "ValueError", .type "Exception", .type "BaseException", .type "object"] "ValueError.__new__")
    (n4 : FnRaw K "__init__" "InvalidText.__init__" (sI 6) i4)
    (r5 : CRaw K c5 [.ref pe, .type "ValueError", .type "Exception", .type "BaseException", .type "object"] "ValueError.__new__")
    (n5 : FnRaw K "__init__" "InvalidRow.__init__" (sI 7) i5)
    (r6 : CRaw K c6 [.ref pe, .type "ValueError", .type "Exception", .type "BaseException", .type "object"] "ValueError.__new__")
    (n6 : FnRaw K "__init__" "InvalidWay.__init__" (sI 8) i6)
    (r7 : CRaw K c7 [.ref pe, .type "ValueError", .type "Exception", .type "BaseException", .type "object"] "ValueError.__new__")
    (n7 : FnRaw K "__init__" "InvalidStory.__init__" (sI 9) i7)
    (r8 : CRaw K c8 [.ref pe, .type "ValueError", .type "Exception", .type "BaseException", .type "object"] "ValueError.__new__")
    (n8 : FnRaw K "__init__" "Refused.__init__" (sI 11) i8)
    (r9 : CRaw K c9 [.type "IndexError", .type "LookupError", .type "Exception", .type "BaseException", .type "object"] "IndexError.__new__")
    (n9 : FnRaw K "__init__" "NoLimit.__init__" (sI 14) i9)
    (r10 : CRaw K c10 [.type "KeyError", .type "LookupError", .type "Exception", .type "BaseException", .type "object"] "LookupError.__new__")
    (n10 : FnRaw K "__init__" "NoStep.__init__" (sI 12) i10)
    (r11 : CRaw K c11 [.type "KeyError", .type "LookupError", .type "Exception", .type "BaseException", .type "object"] "LookupError.__new__")
    (n11 : FnRaw K "__init__" "NoPlace.__init__" (sI 13) i11)
    (r12 : CRaw K c12 [.ref pe, .type "ValueError", .type "Exception", .type "BaseException", .type "object"] "ValueError.__new__")
    (q12 : PySem.W.excIn K c12 [.type "ValueError", .type "Exception", .type "BaseException", .type "object"] "ValueError.__new__" = true)
    (rpe : CRaw K pe [.type "ValueError", .type "Exception", .type "BaseException", .type "object"] "ValueError.__new__")
    (hn : PySem.W.specialIn K (.builtin "object.__class__") "__get__" = some (some (.builtin "getset_descriptor.__get__")))
    (ht : PySem.W.takesIn K (.builtin "object.__class__") = some true)
    (aL : PySem.W.nsIn K mainGlobals "law" = some (some (.ref fL)))
    (nL : FnRaw K "law" "law" sLaw fL)
    (aD : PySem.W.nsIn K mainGlobals "_law_draw" = some (some (.ref fD)))
    (nD : FnRaw K "_law_draw" "_law_draw" sDraw fD)
    (aP : PySem.W.nsIn K mainGlobals "_law_pick" = some (some (.ref fP)))
    (nP : FnRaw K "_law_pick" "_law_pick" sPick fP)
    (aT : PySem.W.nsIn K mainGlobals "_law_thing" = some (some (.ref fT)))
    (nT : FnRaw K "_law_thing" "_law_thing" sThing fT)
    (aE : PySem.W.nsIn K mainGlobals "_law_deal" = some (some (.ref fE)))
    (nE : FnRaw K "_law_deal" "_law_deal" sDeal fE)
    (aW : PySem.W.nsIn K mainGlobals "_law_by_word" = some (some (.ref fW)))
    (nW : FnRaw K "_law_by_word" "_law_by_word" sWord fW)
    (aN : PySem.W.nsIn K mainGlobals "_law_by_number" = some (some (.ref fN)))
    (nN : FnRaw K "_law_by_number" "_law_by_number" sNumb fN)
    (aK : PySem.W.nsIn K mainGlobals "_law_by_keyword" = some (some (.ref fK)))
    (nK : FnRaw K "_law_by_keyword" "_law_by_keyword" sKeyw fK)
    (aS : PySem.W.nsIn K mainGlobals "_law_sorts" = some (some (.ref fS)))
    (nS : FnRaw K "_law_sorts" "_law_sorts" sSort fS)
    (aG : PySem.W.nsIn K mainGlobals "_law_kept" = some (some (.ref fG)))
    (nG : FnRaw K "_law_kept" "_law_kept" sKept fG)
    (z_int : PySem.W.nsIn K mainGlobals "int" = some none)
    (z_abs : PySem.W.nsIn K mainGlobals "abs" = some none)
    (z_len : PySem.W.nsIn K mainGlobals "len" = some none)
    (z_range : PySem.W.nsIn K mainGlobals "range" = some none)
    (z_tuple : PySem.W.nsIn K mainGlobals "tuple" = some none)
    (z_list : PySem.W.nsIn K mainGlobals "list" = some none)
    (z_repr : PySem.W.nsIn K mainGlobals "repr" = some none)
    (z_max : PySem.W.nsIn K mainGlobals "max" = some none)
    (z_min : PySem.W.nsIn K mainGlobals "min" = some none)
    (z_isinstance : PySem.W.nsIn K mainGlobals "isinstance" = some none)
    (z_enumerate : PySem.W.nsIn K mainGlobals "enumerate" = some none)
    (z_ValueError : PySem.W.nsIn K mainGlobals "ValueError" = some none)
    (z_IndexError : PySem.W.nsIn K mainGlobals "IndexError" = some none)
    (z_KeyError : PySem.W.nsIn K mainGlobals "KeyError" = some none)
    (nd : ([c0, c1, c2, c3, c4, c5, c6, c7, c8, c9, c10, c11, c12, pe] : List Addr).Nodup)
    : ∃ fd : FuncData, (∀ (s : Shared) (v : Value), BindsTo s fd ⟨[v], []⟩ [("_law_script", v)]) ∧ ∀ base : Heap, K.In base → base.Ns mainGlobals mg → FnG l.prog w K mg base 12 fa fd ["_law_script"] (spLaw K) := by
  have e := hfa.symm.trans (PySem.W.mg_of X G aL)
  cases e
  obtain ⟨d0, F0⟩ := n0.fn
  obtain ⟨d1, F1⟩ := n1.fn
  obtain ⟨d2, F2⟩ := n2.fn
  obtain ⟨d3, F3⟩ := n3.fn
  obtain ⟨d4, F4⟩ := n4.fn
  obtain ⟨d5, F5⟩ := n5.fn
  obtain ⟨d6, F6⟩ := n6.fn
  obtain ⟨d7, F7⟩ := n7.fn
  obtain ⟨d8, F8⟩ := n8.fn
  obtain ⟨d9, F9⟩ := n9.fn
  obtain ⟨d10, F10⟩ := n10.fn
  obtain ⟨d11, F11⟩ := n11.fn
  obtain ⟨dL, FL⟩ := nL.fn
  obtain ⟨dD, FD⟩ := nD.fn
  obtain ⟨dP, FP⟩ := nP.fn
  obtain ⟨dT, FT⟩ := nT.fn
  obtain ⟨dE, FE⟩ := nE.fn
  obtain ⟨dW, FW⟩ := nW.fn
  obtain ⟨dN, FN⟩ := nN.fn
  obtain ⟨dK, FK⟩ := nK.fn
  obtain ⟨dS, FS⟩ := nS.fn
  obtain ⟨dG, FG⟩ := nG.fn
  have M : ∀ {x : Str} {v : Value}, PySem.W.nsIn K mainGlobals x = some (some v) → mg x = some v := fun z => PySem.W.mg_of X G z
  have N : ∀ {x : Str}, PySem.W.nsIn K mainGlobals x = some none → mg x = none := fun z => PySem.W.mg_none_of X G z
  have bD : Binds K dD ["_law_deal_here", "_law_many"] [] := FD.binds (ps := ["_law_deal_here", "_law_many"]) fun _ _ _ _ _ _ us hl => match us, hl with | [_, _], _ => rfl
  have bP : Binds K dP ["_law_deal_here", "_law_some"] [] := FP.binds (ps := ["_law_deal_here", "_law_some"]) fun _ _ _ _ _ _ us hl => match us, hl with | [_, _], _ => rfl
  have bT : Binds K dT ["_law_deal_here", "_law_deep"] [] := FT.binds (ps := ["_law_deal_here", "_law_deep"]) fun _ _ _ _ _ _ us hl => match us, hl with | [_, _], _ => rfl
  have bE : Binds K dE ["_law_script", "_law_base"] [] := FE.binds (ps := ["_law_script", "_law_base"]) fun _ _ _ _ _ _ us hl => match us, hl with | [_, _], _ => rfl
  have bW : Binds K dW ["_law_spot", "_law_thing_here"] [] := FW.binds (ps := ["_law_spot", "_law_thing_here"]) fun _ _ _ _ _ _ us hl => match us, hl with | [_, _], _ => rfl
  have bN : Binds K dN ["_law_spot", "_law_thing_here"] [] := FN.binds (ps := ["_law_spot", "_law_thing_here"]) fun _ _ _ _ _ _ us hl => match us, hl with | [_, _], _ => rfl
  have bK : Binds K dK ["_law_spot", "_law_thing_here"] [] := FK.binds (ps := ["_law_spot", "_law_thing_here"]) fun _ _ _ _ _ _ us hl => match us, hl with | [_, _], _ => rfl
  have bS : Binds K dS ["_law_e"] [] := FS.binds (ps := ["_law_e"]) fun _ _ _ _ _ _ us hl => match us, hl with | [_], _ => rfl
  have bG : Binds K dG ["_law_e", "_law_spot"] [] := FG.binds (ps := ["_law_e", "_law_spot"]) fun _ _ _ _ _ _ us hl => match us, hl with | [_, _], _ => rfl
  let a : Adr := { c0 := c0, i0 := i0, d0 := d0, c1 := c1, i1 := i1, d1 := d1, c2 := c2, i2 := i2, d2 := d2, c3 := c3, i3 := i3, d3 := d3, c4 := c4, i4 := i4, d4 := d4, c5 := c5, i5 := i5, d5 := d5, c6 := c6, i6 := i6, d6 := d6, c7 := c7, i7 := i7, d7 := d7, c8 := c8, i8 := i8, d8 := d8, c9 := c9, i9 := i9, d9 := d9, c10 := c10, i10 := i10, d10 := d10, c11 := c11, i11 := i11, d11 := d11, c12 := c12, pe := pe }
  have at1 : ∀ i, i ≤ 12 → ([c0, c1, c2, c3, c4, c5, c6, c7, c8, c9, c10, c11, c12, pe] : List Addr)[i]? = some (cof a i) := fun i hi => match i, hi with
    | 0, _ => rfl
    | 1, _ => rfl
    | 2, _ => rfl
    | 3, _ => rfl
    | 4, _ => rfl
    | 5, _ => rfl
    | 6, _ => rfl
    | 7, _ => rfl
    | 8, _ => rfl
    | 9, _ => rfl
    | 10, _ => rfl
    | 11, _ => rfl
    | 12, _ => rfl
    | i + 13, h => absurd h (by omega)
  have inj : ∀ i j, i ≤ 12 → j ≤ 12 → cof a i = cof a j → i = j := fun i j hi hj e => nd_ix nd (at1 i hi) (by rw [e]; exact at1 j hj)
  have npe : ∀ i, i ≤ 12 → pe ≠ cof a i := fun i hi e => absurd (nd_ix nd (i := i) (j := 13) (at1 i hi) (by rw [← e]; rfl)) (by omega)
  have hv : ∀ b, ([.type "ValueError", .type "Exception", .type "BaseException", .type "object"] : List Value).contains (.ref b) = false := has_ref (types_only ["ValueError", "Exception", "BaseException", "object"])
  have tv := types_only ["ValueError", "Exception", "BaseException", "object"]
  have ti := types_only ["IndexError", "LookupError", "Exception", "BaseException", "object"]
  have tk := types_only ["KeyError", "LookupError", "Exception", "BaseException", "object"]
  have raw : ∀ i, i ≤ 12 → ∃ bm n, CRaw K (cof a i) bm n ∧ (∀ b, bm.contains (.ref b) = (decide (i < 9 ∨ i = 12) && decide (pe = b))) ∧ bm.contains (.type "ValueError") = decide (i < 9 ∨ i = 12) ∧
      bm.contains (.type "IndexError") = decide (i = 9) ∧ bm.contains (.type "KeyError") = decide (i = 10 ∨ i = 11) := fun i hi => match i, hi with
    | 0, _ => ⟨_, _, r0, fun b => by rw [List.contains_cons, hv b, Bool.or_false, beq_ref]; exact decide_eq_decide.mpr ⟨fun z => z.symm, fun z => z.symm⟩, rfl, rfl, rfl⟩
    | 1, _ => ⟨_, _, r1, fun b => by rw [List.contains_cons, hv b, Bool.or_false, beq_ref]; exact decide_eq_decide.mpr ⟨fun z => z.symm, fun z => z.symm⟩, rfl, rfl, rfl⟩
    | 2, _ => ⟨_, _, r2, fun b => by rw [List.contains_cons, hv b, Bool.or_false, beq_ref]; exact decide_eq_decide.mpr ⟨fun z => z.symm, fun z => z.symm⟩, rfl, rfl, rfl⟩
    | 3, _ => ⟨_, _, r3, fun b => by rw [List.contains_cons, hv b, Bool.or_false, beq_ref]; exact decide_eq_decide.mpr ⟨fun z => z.symm, fun z => z.symm⟩, rfl, rfl, rfl⟩
    | 4, _ => ⟨_, _, r4, fun b => by rw [List.contains_cons, hv b, Bool.or_false, beq_ref]; exact decide_eq_decide.mpr ⟨fun z => z.symm, fun z => z.symm⟩, rfl, rfl, rfl⟩
    | 5, _ => ⟨_, _, r5, fun b => by rw [List.contains_cons, hv b, Bool.or_false, beq_ref]; exact decide_eq_decide.mpr ⟨fun z => z.symm, fun z => z.symm⟩, rfl, rfl, rfl⟩
    | 6, _ => ⟨_, _, r6, fun b => by rw [List.contains_cons, hv b, Bool.or_false, beq_ref]; exact decide_eq_decide.mpr ⟨fun z => z.symm, fun z => z.symm⟩, rfl, rfl, rfl⟩
    | 7, _ => ⟨_, _, r7, fun b => by rw [List.contains_cons, hv b, Bool.or_false, beq_ref]; exact decide_eq_decide.mpr ⟨fun z => z.symm, fun z => z.symm⟩, rfl, rfl, rfl⟩
    | 8, _ => ⟨_, _, r8, fun b => by rw [List.contains_cons, hv b, Bool.or_false, beq_ref]; exact decide_eq_decide.mpr ⟨fun z => z.symm, fun z => z.symm⟩, rfl, rfl, rfl⟩
    | 9, _ => ⟨_, _, r9, fun b => has_ref ti b, by decide +kernel, by decide +kernel, by decide +kernel⟩
    | 10, _ => ⟨_, _, r10, fun b => has_ref tk b, by decide +kernel, by decide +kernel, by decide +kernel⟩
    | 11, _ => ⟨_, _, r11, fun b => has_ref tk b, by decide +kernel, by decide +kernel, by decide +kernel⟩
    | 12, _ => ⟨_, _, r12, fun b => by rw [List.contains_cons, hv b, Bool.or_false, beq_ref]; exact decide_eq_decide.mpr ⟨fun z => z.symm, fun z => z.symm⟩, rfl, rfl, rfl⟩
    | i + 13, h => absurd h (by omega)
  have T : ErrTxt K mg a := {
    x0 := xcV (M a0) r0 y0 (r0.exc hn ht)
    F0 := F0
    b0 := xbinds F0 (fun _ _ _ _ _ _ _ _ => rfl) (fun _ _ _ _ _ _ _ _ => rfl)
    x1 := xcV (M a1) r1 y1 (r1.exc hn ht)
    F1 := F1
    b1 := xbinds F1 (fun _ _ _ _ _ _ _ _ => rfl) (fun _ _ _ _ _ _ _ _ => rfl)
    x2 := xcV (M a2) r2 y2 (r2.exc hn ht)
    F2 := F2
    b2 := xbinds F2 (fun _ _ _ _ _ _ _ _ => rfl) (fun _ _ _ _ _ _ _ _ => rfl)
    x3 := xcV (M a3) r3 y3 (r3.exc hn ht)
    F3 := F3
    b3 := xbinds F3 (fun _ _ _ _ _ _ _ _ => rfl) (fun _ _ _ _ _ _ _ _ => rfl)
    x4 := xcV (M a4) r4 y4 (r4.exc hn ht)
    F4 := F4
    b4 := xbinds F4 (fun _ _ _ _ _ _ _ _ => rfl) (fun _ _ _ _ _ _ _ _ => rfl)
    x5 := xcV (M a5) r5 y5 (r5.exc hn ht)
    F5 := F5
    b5 := xbinds F5 (fun _ _ _ _ _ _ _ _ => rfl) (fun _ _ _ _ _ _ _ _ => rfl)
    x6 := xcV (M a6) r6 y6 (r6.exc hn ht)
    F6 := F6
    b6 := xbinds F6 (fun _ _ _ _ _ _ _ _ => rfl) (fun _ _ _ _ _ _ _ _ => rfl)
    x7 := xcV (M a7) r7 y7 (r7.exc hn ht)
    F7 := F7
    b7 := xbinds F7 (fun _ _ _ _ _ _ _ _ => rfl) (fun _ _ _ _ _ _ _ _ => rfl)
    x8 := xcV (M a8) r8 y8 (r8.exc hn ht)
    F8 := F8
    b8 := xbinds F8 (fun _ _ _ _ _ _ _ _ => rfl) (fun _ _ _ _ _ _ _ _ => rfl)
    x9 := xcI (M a9) r9 y9 (r9.exc hn ht)
    F9 := F9
    b9 := xbinds F9 (fun _ _ _ _ _ _ _ _ => rfl) (fun _ _ _ _ _ _ _ _ => rfl)
    x10 := xcK (M a10) r10 y10 (r10.exc hn ht)
    F10 := F10
    b10 := xbinds F10 (fun _ _ _ _ _ _ _ _ => rfl) (fun _ _ _ _ _ _ _ _ => rfl)
    x11 := xcK (M a11) r11 y11 (r11.exc hn ht)
    F11 := F11
    b11 := xbinds F11 (fun _ _ _ _ _ _ _ _ => rfl) (fun _ _ _ _ _ _ _ _ => rfl)
    g12 := M a12
    q12 := q12
    k12 := r12.kC
    ex := fun i hi => by
      obtain ⟨bm, n, r, _⟩ := raw i hi
      exact r.exc hn ht
    gPE := M ape
    mVE := N z_ValueError
    mIE := N z_IndexError
    mKE := N z_KeyError
    mIs := N z_isinstance
    mEn := N z_enumerate
    kit := fun i j hi hj => by
      obtain ⟨bm, n, r, h1, _⟩ := raw i hi
      obtain ⟨bm', n', r', _⟩ := raw j hj
      rw [r.kit r', List.contains_cons, h1, decide_eq_false (npe j hj), Bool.and_false, Bool.or_false, beq_ref]
      exact congrArg some (decide_eq_decide.mpr ⟨fun z => (inj j i hj hi z).symm, fun z => by rw [z]⟩)
    kP := fun i hi => by
      obtain ⟨bm, n, r, h1, _⟩ := raw i hi
      rw [r.kit rpe, List.contains_cons, h1, decide_eq_true rfl, Bool.and_true, beq_ref, decide_eq_false (npe i hi), Bool.false_or]
    kV := fun i hi => by
      obtain ⟨bm, n, r, _, h1, _⟩ := raw i hi
      rw [r.kitT (by decide +kernel), List.contains_cons, h1]
      rfl
    kI := fun i hi => by
      obtain ⟨bm, n, r, _, _, h1, _⟩ := raw i hi
      rw [r.kitT (by decide +kernel), List.contains_cons, h1]
      rfl
    kK := fun i hi => by
      obtain ⟨bm, n, r, _, _, _, h1⟩ := raw i hi
      rw [r.kitT (by decide +kernel), List.contains_cons, h1]
      rfl }
  have B : Bt mg := ⟨N z_int, N z_abs, N z_len, N z_range, N z_tuple, N z_list⟩
  have T0 : Txt0 K mg fD fP fT dD dP dT := ⟨B, FD, bD, M aD, FP, bP, M aP, FT, bT, M aT⟩
  have Z : TxtL K mg a fa fD fP fT fE fW fN fK fS fG dL dD dP dT dE dW dN dK dS dG := ⟨T0, T, FE, bE, M aE, FW, bW, M aW, FN, bN, M aN, FK, bK, M aK, FS, bS, M aS, FG, bG, M aG, FL, N z_repr, N z_max, N z_min⟩
  have hb : ∀ (s : Shared) (v : Value), BindsTo s dL ⟨[v], []⟩ [("_law_script", v)] := by
    obtain ⟨oc, od, kV, doc, pm, an, cdv, ct, osl, rfl, lk, hcd⟩ := FL.ex
    exact fun s v => .of_eq rfl
  exact ⟨dL, hb, fun base _ _ => ok_law Z⟩
end Vf

set_option Elab.async false
set_option maxRecDepth 100000
open PySem PySem.W PyProof.Rows
set_option maxHeartbeats 0 in
theorem PySem.Challenge.cw_plateways_k01_errors_and_what_they_keep_holds : PySem.Challenge.rw_plateways_k01_errors_and_what_they_keep.Holds := by
  w_on; o_law; k_head; (case hw => w_witness2)
  k_fill
  refine Vf.walkG (l := PySem.Challenge.rw_plateways_k01_errors_and_what_they_keep) (n := 63) (k := 12) (x := "_law_script") (sp := Vf.spLaw) rfl (by decide) rfl ⟨rfl, by decide, by decide⟩ (fun w h Y => PySem.W.kIn_of Y) ?F (fun K H a ns hl _ hS => ⟨a, ns, rfl, hS, hl, fun _ => rfl⟩)
  case F =>
    intro w mg fa h KX G hmg
    refine' Vf.all_mk KX G hmg ?a0 ?a1 ?a2 ?a3 ?a4 ?a5 ?a6 ?a7 ?a8 ?a9 ?a10 ?a11 ?a12 ?ape ?y0 ?y1 ?y2 ?y3 ?y4 ?y5 ?y6 ?y7 ?y8 ?y9 ?y10 ?y11 ?r0 ?n0 ?r1 ?n1 ?r2 ?n2 ?r3 ?n3 ?r4 ?n4 ?r5 ?n5 ?r6 ?n6 ?r7 ?n7 ?r8 ?n8 ?r9 ?n9 ?r10 ?n10 ?r11 ?n11 ?r12 ?q12 ?rpe ?hn ?ht ?aL ?nL ?aD ?nD ?aP ?nP ?aT ?nT ?aE ?nE ?aW ?nW ?aN ?nN ?aK ?nK ?aS ?nS ?aG ?nG ?z_int ?z_abs ?z_len ?z_range ?z_tuple ?z_list ?z_repr ?z_max ?z_min ?z_isinstance ?z_enumerate ?z_ValueError ?z_IndexError ?z_KeyError ?nd
    (case a0 => k_is)
    (case a1 => k_is)
    (case a2 => k_is)
    (case a3 => k_is)
    (case a4 => k_is)
    (case a5 => k_is)
    (case a6 => k_is)
    (case a7 => k_is)
    (case a8 => k_is)
    (case a9 => k_is)
    (case a10 => k_is)
    (case a11 => k_is)
    (case a12 => k_is)
    (case ape => k_is)
    (case y0 => exact ⟨by k_is, by k_is, by k_is, by k_is⟩)
    (case y1 => exact ⟨by k_is, by k_is, by k_is, by k_is⟩)
    (case y2 => exact ⟨by k_is, by k_is, by k_is, by k_is⟩)
    (case y3 => exact ⟨by k_is, by k_is, by k_is, by k_is⟩)
    (case y4 => exact ⟨by k_is, by k_is, by k_is, by k_is⟩)
    (case y5 => exact ⟨by k_is, by k_is, by k_is, by k_is⟩)
    (case y6 => exact ⟨by k_is, by k_is, by k_is, by k_is⟩)
    (case y7 => exact ⟨by k_is, by k_is, by k_is, by k_is⟩)
    (case y8 => exact ⟨by k_is, by k_is, by k_is, by k_is⟩)
    (case y9 => exact ⟨by k_is, by k_is, by k_is, by k_is⟩)
    (case y10 => exact ⟨by k_is, by k_is, by k_is, by k_is⟩)
    (case y11 => exact ⟨by k_is, by k_is, by k_is, by k_is⟩)
    (case r0 => exact ⟨⟨_, _, _, _, _, _, _, _, _, _, _, _, _, _, by k_is⟩, by k_is, by k_is, by k_is, by k_is, by k_is, by k_is, by k_is⟩)
    (case n0 => exact ⟨⟨_, _, _, _, _, _, _, _, _, by k_is, by k_is⟩, by k_is⟩)
    (case r1 => exact ⟨⟨_, _, _, _, _, _, _, _, _, _, _, _, _, _, by k_is⟩, by k_is, by k_is, by k_is, by k_is, by k_is, by k_is, by k_is⟩)
    (case n1 => exact ⟨⟨_, _, _, _, _, _, _, _, _, by k_is, by k_is⟩, by k_is⟩)
    (case r2 => exact ⟨⟨_, _, _, _, _, _, _, _, _, _, _, _, _, _, by k_is⟩, by k_is, by k_is, by k_is, by k_is, by k_is, by k_is, by k_is⟩)
    (case n2 => exact ⟨⟨_, _, _, _, _, _, _, _, _, by k_is, by k_is⟩, by k_is⟩)
    (case r3 => exact ⟨⟨_, _, _, _, _, _, _, _, _, _, _, _, _, _, by k_is⟩, by k_is, by k_is, by k_is, by k_is, by k_is, by k_is, by k_is⟩)
    (case n3 => exact ⟨⟨_, _, _, _, _, _, _, _, _, by k_is, by k_is⟩, by k_is⟩)
    (case r4 => exact ⟨⟨_, _, _, _, _, _, _, _, _, _, _, _, _, _, by k_is⟩, by k_is, by k_is, by k_is, by k_is, by k_is, by k_is, by k_is⟩)
    (case n4 => exact ⟨⟨_, _, _, _, _, _, _, _, _, by k_is, by k_is⟩, by k_is⟩)
    (case r5 => exact ⟨⟨_, _, _, _, _, _, _, _, _, _, _, _, _, _, by k_is⟩, by k_is, by k_is, by k_is, by k_is, by k_is, by k_is, by k_is⟩)
    (case n5 => exact ⟨⟨_, _, _, _, _, _, _, _, _, by k_is, by k_is⟩, by k_is⟩)
    (case r6 => exact ⟨⟨_, _, _, _, _, _, _, _, _, _, _, _, _, _, by k_is⟩, by k_is, by k_is, by k_is, by k_is, by k_is, by k_is, by k_is⟩)
    (case n6 => exact ⟨⟨_, _, _, _, _, _, _, _, _, by k_is, by k_is⟩, by k_is⟩)
    (case r7 => exact ⟨⟨_, _, _, _, _, _, _, _, _, _, _, _, _, _, by k_is⟩, by k_is, by k_is, by k_is, by k_is, by k_is, by k_is, by k_is⟩)
    (case n7 => exact ⟨⟨_, _, _, _, _, _, _, _, _, by k_is, by k_is⟩, by k_is⟩)
    (case r8 => exact ⟨⟨_, _, _, _, _, _, _, _, _, _, _, _, _, _, by k_is⟩, by k_is, by k_is, by k_is, by k_is, by k_is, by k_is, by k_is⟩)
    (case n8 => exact ⟨⟨_, _, _, _, _, _, _, _, _, by k_is, by k_is⟩, by k_is⟩)
    (case r9 => exact ⟨⟨_, _, _, _, _, _, _, _, _, _, _, _, _, _, by k_is⟩, by k_is, by k_is, by k_is, by k_is, by k_is, by k_is, by k_is⟩)
    (case n9 => exact ⟨⟨_, _, _, _, _, _, _, _, _, by k_is, by k_is⟩, by k_is⟩)
    (case r10 => exact ⟨⟨_, _, _, _, _, _, _, _, _, _, _, _, _, _, by k_is⟩, by k_is, by k_is, by k_is, by k_is, by k_is, by k_is, by k_is⟩)
    (case n10 => exact ⟨⟨_, _, _, _, _, _, _, _, _, by k_is, by k_is⟩, by k_is⟩)
    (case r11 => exact ⟨⟨_, _, _, _, _, _, _, _, _, _, _, _, _, _, by k_is⟩, by k_is, by k_is, by k_is, by k_is, by k_is, by k_is, by k_is⟩)
    (case n11 => exact ⟨⟨_, _, _, _, _, _, _, _, _, by k_is, by k_is⟩, by k_is⟩)
    (case r12 => exact ⟨⟨_, _, _, _, _, _, _, _, _, _, _, _, _, _, by k_is⟩, by k_is, by k_is, by k_is, by k_is, by k_is, by k_is, by k_is⟩)
    (case q12 => k_exc)
    (case rpe => exact ⟨⟨_, _, _, _, _, _, _, _, _, _, _, _, _, _, by k_is⟩, by k_is, by k_is, by k_is, by k_is, by k_is, by k_is, by k_is⟩)
    (case hn => k_is)
    (case ht => k_is)
    (case aL => k_is)
    (case nL => exact ⟨⟨_, _, _, _, _, _, _, _, _, by k_is, by k_is⟩, by k_is⟩)
    (case aD => k_is)
    (case nD => exact ⟨⟨_, _, _, _, _, _, _, _, _, by k_is, by k_is⟩, by k_is⟩)
    (case aP => k_is)
    (case nP => exact ⟨⟨_, _, _, _, _, _, _, _, _, by k_is, by k_is⟩, by k_is⟩)
    (case aT => k_is)
    (case nT => exact ⟨⟨_, _, _, _, _, _, _, _, _, by k_is, by k_is⟩, by k_is⟩)
    (case aE => k_is)
    (case nE => exact ⟨⟨_, _, _, _, _, _, _, _, _, by k_is, by k_is⟩, by k_is⟩)
    (case aW => k_is)
    (case nW => exact ⟨⟨_, _, _, _, _, _, _, _, _, by k_is, by k_is⟩, by k_is⟩)
    (case aN => k_is)
    (case nN => exact ⟨⟨_, _, _, _, _, _, _, _, _, by k_is, by k_is⟩, by k_is⟩)
    (case aK => k_is)
    (case nK => exact ⟨⟨_, _, _, _, _, _, _, _, _, by k_is, by k_is⟩, by k_is⟩)
    (case aS => k_is)
    (case nS => exact ⟨⟨_, _, _, _, _, _, _, _, _, by k_is, by k_is⟩, by k_is⟩)
    (case aG => k_is)
    (case nG => exact ⟨⟨_, _, _, _, _, _, _, _, _, by k_is, by k_is⟩, by k_is⟩)
    (case z_int => k_is)
    (case z_abs => k_is)
    (case z_len => k_is)
    (case z_range => k_is)
    (case z_tuple => k_is)
    (case z_list => k_is)
    (case z_repr => k_is)
    (case z_max => k_is)
    (case z_min => k_is)
    (case z_isinstance => k_is)
    (case z_enumerate => k_is)
    (case z_ValueError => k_is)
    (case z_IndexError => k_is)
    (case z_KeyError => k_is)
    (case nd => decide +kernel)

