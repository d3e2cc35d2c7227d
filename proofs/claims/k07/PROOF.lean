import PyProof.Rows.All
import Wide.All
import OpenK.AllK
import Wide.FinOn
import HandS.ForMost
import HandS.IsInst
import HandS.Wide
import HandS.Walk
import HandS.Zip
import HandS.Codes
import HandS.More
import HandS.SetKeys
import PySem.Challenge.RW_addedgrounds_k07_whole_holes_filled
set_option Elab.async false
set_option maxRecDepth 100000
set_option maxHeartbeats 4000000
set_option linter.unusedVariables false
namespace Ag
open PySem PySem.Spec PyProof.Rows L2

/-! ### heaps: all but the bag is kept -/
def Kp (b : Addr) (H H' : Hp) : Prop := ∀ c o, H c = some o → c ≠ b → H' c = some o
theorem Kp.refl (b : Addr) (H : Hp) : Kp b H H := fun _ _ e _ => e
theorem Kp.trans {b : Addr} {H H1 H2 : Hp} (p : Kp b H H1) (q : Kp b H1 H2) : Kp b H H2 := fun c o e n => q c o (p c o e n) n
theorem Kp.of {b : Addr} {H H' : Hp} (s : Same H H') : Kp b H H' := fun c o e _ => s c o e
theorem Kp.seqL {K : PySem.W.Frag} {b a : Addr} {H H' : Hp} {xs : List V} (p : Kp b H H') (n : a ≠ b) (h : SqL K H a xs) : SqL K H' a xs := by
  rcases h with (h | ⟨o, h⟩) | h
  · exact .inl (.inl (p _ _ h n))
  · exact .inl (.inr ⟨o, p _ _ h n⟩)
  · exact .inr h
theorem Kp.seqT {K : PySem.W.Frag} {b a : Addr} {H H' : Hp} {xs : List V} (p : Kp b H H') (n : a ≠ b) (h : SqT K H a xs) : SqT K H' a xs := by
  rcases h with (h | ⟨o, h⟩) | h
  · exact .inl (.inl (p _ _ h n))
  · exact .inl (.inr ⟨o, p _ _ h n⟩)
  · exact .inr h
theorem sameT {K : PySem.W.Frag} {H H' : Hp} {a : Addr} {xs : List V} (e : Same H H') (h : SqT K H a xs) : SqT K H' a xs := by
  rcases h with (h | ⟨o, h⟩) | h
  · exact .inl (.inl (e _ _ h))
  · exact .inl (.inr ⟨o, e _ _ h⟩)
  · exact .inr h
theorem same_new {H : Hp} {p : Addr} (h : H p = none) (o : HO) : Same H (upd H p o) := fun b u q => by rw [upd_ne (ne_of_none q h)]; exact q

/-! ### the bag that a law draws from -/
def Bag (H : Hp) (b l : Addr) : Prop := ∃ (ns : List Int) (at' : Nat) (big seed cnt : Int), H b = some (.lst [.ref l, .int at', .int big, .int seed, .int cnt]) ∧
  H l = some (.lst (ns.map V.int)) ∧ l ≠ b ∧ ns.length ≤ 63 ∧ 0 ≤ big ∧ 0 ≤ seed ∧ seed < 2147483629
theorem Bag.kp {H H' : Hp} {b l : Addr} (g : Bag H b l) (s : Same H H') : Bag H' b l := by
  obtain ⟨ns, at', big, seed, cnt, h1, h2, r⟩ := g
  exact ⟨ns, at', big, seed, cnt, s _ _ h1, s _ _ h2, r⟩
theorem Bag.new {H : Hp} {b l a : Addr} (g : Bag H b l) (h : H a = none) : a ≠ b ∧ a ≠ l := by
  obtain ⟨ns, at', big, seed, cnt, h1, h2, _⟩ := g
  exact ⟨(ne_of_none h1 h).symm, (ne_of_none h2 h).symm⟩
theorem Bag.upd {H : Hp} {b l a : Addr} {o : HO} (g : Bag H b l) (h1 : a ≠ b) (h2 : a ≠ l) : Bag (upd H a o) b l := by
  obtain ⟨ns, at', big, seed, cnt, g1, g2, r⟩ := g
  exact ⟨ns, at', big, seed, cnt, by rw [upd_ne h1.symm]; exact g1, by rw [upd_ne h2.symm]; exact g2, r⟩
theorem Kp.upd {b a : Addr} {H H' : Hp} {o : HO} (k : Kp b H H') (h : H a = none) : Kp b H (upd H' a o) := fun c u e n => by
  rw [upd_ne (ne_of_none e h)]
  exact k c u e n
theorem Kp.free {b a : Addr} {H H' : Hp} (k : Kp b H H') (n : a ≠ b) (h : H' a = none) : H a = none := by
  cases q : H a with
  | none => rfl
  | some o =>
    rw [k a o q n] at h
    cases h

/-- what may be drawn from: a text's signs, the items of a list or a tuple -/
def Itm (K : PySem.W.Frag) (H : Hp) (b : Addr) (x : V) (vs : List V) : Prop := (∃ z : Str, x = .str z ∧ z.length ≤ sizeLine ∧ vs = z.cps.toList.map fun c => V.str ⟨#[c]⟩) ∨ ∃ a, x = .ref a ∧ a ≠ b ∧ (SqL K H a vs ∨ SqT K H a vs)
/-! ### operators of several kinds at once -/
theorem opOr {X : Cx} {f : Value → Value → Sem Value} {r1 r2 : R2} (h1 : OpR X f r1) (h2 : OpR X f r2) : OpR X f (fun x y H Q => r1 x y H Q ∨ r2 x y H Q) := by
  intro pins s σ H x y v u Q I rx ry h
  rcases h with h | h
  · exact h1 pins s σ H x y v u Q I rx ry h
  · exact h2 pins s σ H x y v u Q I rx ry h

/-! ### data of any depth without dicts -/
theorem Dp_same_all {K : PySem.W.Frag} {H H' : Hp} (s : Same H H') : (∀ (d : PyData) (v : V), Dp K H v d → Dp K H' v d) ∧ True := by
  refine ⟨?_, trivial⟩
  intro d v h
  exact Dp.rec (motive_1 := fun v d _ => Dp K H' v d) (motive_2 := fun vs ds _ => DpAll K H' vs ds) .non .bl .int .str
    (fun q _ ih => .lst (s.seq q) ih) (fun q _ ih => .tup (sameT s q) ih) .nil (fun _ _ a b => .cons a b) h
theorem Dp_same {K : PySem.W.Frag} {H H' : Hp} (s : Same H H') {d : PyData} {v : V} (h : Dp K H v d) : Dp K H' v d := (Dp_same_all s).1 d v h
theorem DpAll_same {K : PySem.W.Frag} {H H' : Hp} (s : Same H H') : ∀ {vs : List V} {ds : List PyData}, DpAll K H vs ds → DpAll K H' vs ds
  | _, _, .nil => .nil
  | _, _, .cons a b => .cons (Dp_same s a) (DpAll_same s b)
theorem dpall_len {K : PySem.W.Frag} {H : Hp} : ∀ {vs : List V} {ds : List PyData}, DpAll K H vs ds → vs.length = ds.length
  | _, _, .nil => rfl
  | _, _, .cons _ b => congrArg (· + 1) (dpall_len b)
theorem dpall_get {K : PySem.W.Frag} {H : Hp} : ∀ {vs : List V} {ds : List PyData} {i : Nat} {v : V}, DpAll K H vs ds → vs[i]? = some v → ∃ d, ds[i]? = some d ∧ Dp K H v d
  | _, _, _, _, .nil, e => by simp at e
  | _, _, 0, _, .cons a _, e => by
    simp at e
    subst e
    exact ⟨_, rfl, a⟩
  | _, _, i + 1, _, .cons _ b, e => by
    obtain ⟨d, h1, h2⟩ := dpall_get (i := i) b (by simpa using e)
    exact ⟨d, by simpa using h1, h2⟩
/-- no dict in it, less than n deep, at most 1000 items in a list -/
def okd : Nat → PyData → Bool
  | 0, _ => false
  | n + 1, .list ds => decide (ds.length ≤ 1000) && ds.all (okd n)
  | n + 1, .tuple ds => decide (ds.length ≤ 1000) && ds.all (okd n)
  | _ + 1, .dict _ => false
  | _ + 1, _ => true
def tyD : PyData → String
  | .none => "NoneType"
  | .bool _ => "bool"
  | .int _ => "int"
  | .str _ => "str"
  | .list _ => "list"
  | .tuple _ => "tuple"
  | .dict _ => "dict"
theorem dp_tyx {K : PySem.W.Frag} {H : Hp} {v : V} {d : PyData} (h : Dp K H v d) : TyX K H v (.type (tyD d)) := by
  cases h with
  | non => exact .base .non
  | bl b => exact .base (.bl b)
  | int i => exact .base (.int i)
  | str x => exact .base (.str x)
  | lst q _ =>
    rcases q with (q | ⟨o, q⟩) | ⟨o, its, n, e, c, _⟩
    · exact .base (.lst q)
    · exact .base (.frz q)
    · exact .kList e c
  | tup q _ =>
    rcases q with (q | ⟨o, q⟩) | ⟨o, its, n, e, c, _⟩
    · exact .base (.tup q)
    · exact .fTuple q
    · exact .kTuple e c
/-- isinstance of such data by a built-in class's name -/
def isD (T : String) (d : PyData) : Bool := (kitB (tyD d) T).getD false
theorem isi_of {K : PySem.W.Frag} {H : Hp} {v : V} {d : PyData} {T : String} {Q : VK} (h : Dp K H v d) (hk : (kitB (tyD d) T).isSome = true) (q : Q (.bl (isD T d)) H) : rIsi K [v, .ty T] H Q := by
  refine ⟨v, .ty T, _, .type T, isD T d, rfl, .ty T, dp_tyx h, ?_, q⟩
  refine kit_ty ?_
  unfold isD
  cases e : kitB (tyD d) T with
  | none => rw [e] at hk; cases hk
  | some b => rfl
theorem kit_some {d : PyData} : (kitB (tyD d) "dict").isSome = true ∧ (kitB (tyD d) "list").isSome = true ∧ (kitB (tyD d) "tuple").isSome = true ∧ (kitB (tyD d) "bool").isSome = true ∧ (kitB (tyD d) "int").isSome = true ∧ (kitB (tyD d) "str").isSome = true := by
  cases d <;> (simp only [tyD]; decide +kernel)
theorem isD_dict {n : Nat} {d : PyData} (h : okd n d = true) : isD "dict" d = false := by
  cases d with
  | dict kvs => cases n <;> simp [okd] at h
  | _ => simp only [isD, tyD]; decide +kernel
theorem iteE {c : Bool} {A B : Prop} (e : c = false) (h : B) : if c = true then A else B := by
  subst e
  exact iteF h
theorem iteU {c : Bool} {A B : Prop} (e : c = true) (h : A) : if c = true then A else B := by
  subst e
  exact iteT h
theorem isiT_of {K : PySem.W.Frag} {H : Hp} {v : V} {d : PyData} {p : Addr} {Q : VK} (h : Dp K H v d) (hp : H p = some (.tup [.ty "list", .ty "tuple"])) (q : Q (.bl (isD "list" d || isD "tuple" d)) H) : rIsiT K [v, .ref p] H Q := by
  refine ⟨v, p, [.ty "list", .ty "tuple"], _, [.type "list", .type "tuple"], _, rfl, hp, .cons (.ty _) (.cons (.ty _) .nil), dp_tyx h, ?_, q⟩
  have h1 : PySem.W.kitOne K (.type (tyD d)) (.type "list") = some (isD "list" d) := kit_ty (by cases d <;> (simp only [isD, tyD]; decide +kernel))
  have h2 : PySem.W.kitOne K (.type (tyD d)) (.type "tuple") = some (isD "tuple" d) := kit_ty (by cases d <;> (simp only [isD, tyD]; decide +kernel))
  refine kitAny_cons h1 (fun e => ?_) (fun e => by rw [e]; rfl)
  rw [e]
  refine kitAny_cons h2 (fun e2 => ?_) (fun e2 => by rw [e2]; rfl)
  rw [e2]
  rfl
theorem walk_zipT {K : PySem.W.Frag} {a b : Addr} {xs ys : List V} {n : Nat} (hn : n = min xs.length ys.length) : Walk (RZ.ItzT K a b) n (fun H => SqT K H a xs ∧ SqT K H b ys) (YPair (fun i => xs[i]?) (fun i => ys[i]?)) := by
  subst hn
  refine ⟨fun i _ hi q => ?_, fun _ q => ⟨xs, ys, q.1, q.2, by omega⟩, fun i H v H' _ q y => ?_⟩
  · have h1 : i < xs.length := by omega
    have h2 : i < ys.length := by omega
    exact ⟨xs, ys, xs[i], ys[i], q.1, q.2, by simp [h1], by simp [h2]⟩
  · obtain ⟨T, x, z, h1, h2, h3, h4, h5⟩ := y
    exact ⟨T, x, z, h1, h2, h3, h4 xs q.1, h5 ys q.2⟩
theorem at_any {α : Type} {xs : List α} {z : Int} {j : Nat} {v : α} (e : z = (j : Int)) (h : xs[j]? = some v) : atI xs z = some v := by
  rw [e]
  exact atI_nat h
theorem isk {K : PySem.W.Frag} {d : PyData} {T : String} (hk : (kitB (tyD d) T).isSome = true) : PySem.W.kitOne K (.type (tyD d)) (.type T) = some (isD T d) := by
  refine kit_ty ?_
  unfold isD
  cases e : kitB (tyD d) T with
  | none => rw [e] at hk; cases hk
  | some b => rfl
theorem iskT {K : PySem.W.Frag} {d : PyData} : PySem.W.kitAny K (.type (tyD d)) [.type "list", .type "tuple"] = some (isD "list" d || isD "tuple" d) := by
  refine kitAny_cons (isk kit_some.2.1) (fun e => ?_) (fun e => by rw [e]; rfl)
  rw [e]
  refine kitAny_cons (isk kit_some.2.2.1) (fun e2 => ?_) (fun e2 => by rw [e2]; rfl)
  rw [e2]
  rfl
theorem isD_leaf {d : PyData} (h2 : ∀ ds, d ≠ .list ds) (h3 : ∀ ds, d ≠ .tuple ds) : (isD "list" d || isD "tuple" d) = false := by
  cases d with
  | list ds => exact absurd rfl (h2 ds)
  | tuple ds => exact absurd rfl (h3 ds)
  | _ => simp only [isD, tyD]; decide +kernel
theorem isD_seq {d : PyData} (h : (∃ ds, d = .list ds) ∨ ∃ ds, d = .tuple ds) : (isD "list" d || isD "tuple" d) = true := by
  rcases h with ⟨ds, rfl⟩ | ⟨ds, rfl⟩ <;> (simp only [isD, tyD]; decide +kernel)
theorem ct2 : Paired ClsV [.ty "list", .ty "tuple"] [.type "list", .type "tuple"] := .cons (.ty _) (.cons (.ty _) .nil)
theorem rep_bl (n : Nat) : List.replicate n (V.bl true) = (List.replicate n true).map V.bl := by rw [List.map_replicate]
theorem rep_all (n : Nat) : (List.replicate n true).all id = true := by
  induction n with
  | zero => rfl
  | succ n ih => rw [List.replicate_succ, List.all_cons, ih]; rfl
theorem small {n : Nat} (h : n ≤ 1000) : n ≤ sizeLine := Nat.le_of_lt (small1000 h)

/-! ### words of small letters -/
def abc : List Nat := (List.range 26).map (· + 97)
theorem abc_str : ("abcdefghijklmnopqrstuvwxyz" : Str) = SX.S abc := by decide +kernel
theorem abc_len : abc.length = 26 := by decide
theorem abc_at {i : Nat} (h : i < 26) : abc[i]? = some (i + 97) := by
  unfold abc
  rw [List.getElem?_map, List.getElem?_range h]
  rfl
theorem abc_mem {c : Nat} : c ∈ abc ↔ 97 ≤ c ∧ c < 123 := by
  unfold abc
  rw [List.mem_map]
  constructor
  · rintro ⟨i, hi, rfl⟩
    rw [List.mem_range] at hi
    omega
  · rintro ⟨h1, h2⟩
    exact ⟨c - 97, by rw [List.mem_range]; omega, by omega⟩
def Low (cs : List Nat) : Prop := ∀ c ∈ cs, 97 ≤ c ∧ c < 123
theorem Low.app {a b : List Nat} (h : Low a) (g : Low b) : Low (a ++ b) := fun c hc => by
  rcases List.mem_append.mp hc with q | q
  · exact h c q
  · exact g c q
theorem Low.take {a : List Nat} (h : Low a) (n : Nat) : Low (a.take n) := fun c hc => h c (List.mem_of_mem_take hc)
theorem Low.drop {a : List Nat} (h : Low a) (n : Nat) : Low (a.drop n) := fun c hc => h c (List.mem_of_mem_drop hc)
theorem Low.one {c : Nat} (h : 97 ≤ c ∧ c < 123) : Low [c] := fun d hd => by
  rw [List.mem_singleton] at hd
  subst hd
  exact h
/-- the k-th of the names that differ in one letter -/
def nm (st : List Nat) (at' fi k : Nat) : List Nat := st.take at' ++ [97 + (fi + 5 * k) % 26] ++ st.drop at'
structure Nms (m : Nat) (ws : List (List Nat)) : Prop where
  ex : ∃ (st : List Nat) (at' fi : Nat), Low st ∧ st.length ≤ 4 ∧ at' ≤ st.length ∧ fi < 26 ∧ ws = (List.range m).map (nm st at' fi)
theorem nm_low {st : List Nat} {at' fi k : Nat} (h : Low st) : Low (nm st at' fi k) := ((h.take at').app (.one (by omega))).app (h.drop at')
theorem nm_len {st : List Nat} {at' fi k : Nat} : (nm st at' fi k).length = st.length + 1 := by
  unfold nm
  rw [List.length_append, List.length_append, List.length_take, List.length_drop, List.length_singleton]
  omega
theorem Nms.len {m : Nat} {ws : List (List Nat)} (h : Nms m ws) : ws.length = m := by
  obtain ⟨st, at', fi, _, _, _, _, rfl⟩ := h.ex
  rw [List.length_map, List.length_range]
theorem Nms.word {m : Nat} {ws : List (List Nat)} (h : Nms m ws) : ∀ w ∈ ws, Low w ∧ 1 ≤ w.length ∧ w.length ≤ 5 := by
  obtain ⟨st, at', fi, h1, h2, _, _, rfl⟩ := h.ex
  intro w hw
  obtain ⟨k, _, rfl⟩ := List.mem_map.mp hw
  rw [nm_len]
  exact ⟨nm_low h1, by omega, by omega⟩
theorem joinL_nil : ∀ cs : List (List Nat), TL.joinL [] cs = cs.flatten
  | [] => rfl
  | [p] => by simp [TL.joinL]
  | p :: q :: r => by
    show p ++ ([] ++ TL.joinL [] (q :: r)) = (p :: q :: r).flatten
    rw [joinL_nil (q :: r)]
    simp
/-- "".join of signs -/
theorem join_signs (cs : List Nat) : Txt.join (Str.ofString "") (cs.map fun c => (⟨#[c]⟩ : Str)) = SX.S cs := by
  have e0 : Str.ofString "" = SX.S [] := by decide +kernel
  have e1 : (cs.map fun c => (⟨#[c]⟩ : Str)) = (cs.map fun c => [c]).map SX.S := by rw [List.map_map]; rfl
  have e2 : (cs.map fun c => [c]).flatten = cs := by
    clear e1
    induction cs with
    | nil => rfl
    | cons c r ih => simp [ih]
  rw [e0, e1, SX.join_S, joinL_nil, e2]
end Ag
namespace Ag
open PySem PySem.Spec PyProof.Rows L2
/-! ### the program's words: letters, names -/
def isLet (cs : List Nat) : Bool := decide (cs.length = 1) && cs.all fun c => decide (97 ≤ c) && decide (c < 123)
def isNm (cs : List Nat) : Bool := decide (1 ≤ cs.length) && decide (cs.length ≤ 6) && cs.all fun c => decide (97 ≤ c) && decide (c < 123)
theorem isNm_low {cs : List Nat} (h : Low cs) (h1 : 1 ≤ cs.length) : isNm cs = decide (cs.length ≤ 6) := by
  unfold isNm
  have e : (cs.all fun c => decide (97 ≤ c) && decide (c < 123)) = true := by
    rw [List.all_eq_true]
    intro c hc
    simp only [Bool.and_eq_true, decide_eq_true_eq]
    exact h c hc
  rw [e, decide_eq_true h1, Bool.true_and, Bool.and_true]
theorem isNm_bad {cs : List Nat} {c : Nat} (h : c ∈ cs) (hc : ¬ (97 ≤ c ∧ c < 123)) : isNm cs = false := by
  unfold isNm
  have e : (cs.all fun c => decide (97 ≤ c) && decide (c < 123)) = false := by
    rw [List.all_eq_false]
    refine ⟨c, h, ?_⟩
    simp only [Bool.and_eq_true, decide_eq_true_eq]
    exact hc
  rw [e, Bool.and_false]
theorem isLet_in (cs : List Nat) (h : cs.length = 1) : (!(Builtin.Str.occurrences (SX.S abc) (SX.S cs) 0 (SX.S abc).length 1).isEmpty) = isLet cs := by
  match cs, h with
  | [c], _ =>
    rw [SX.in_one]
    unfold isLet
    by_cases hc : 97 ≤ c ∧ c < 123
    · rw [decide_eq_true (abc_mem.mpr hc)]
      simp [hc.1, hc.2]
    · rw [decide_eq_false (fun z => hc (abc_mem.mp z))]
      simp
      intro h1
      omega
/-- a value of no text -/
def NoStr (K : PySem.W.Frag) (H : Hp) (x : V) : Prop := ∃ t, TyX K H x t ∧ PySem.W.kitOne K t (.type "str") = some false
/-! ### a call with keywords alone -/
structure KW0 (fd : FuncData) (ps ks : List Str) (g : List Value → List Value) (gV : List V → List V) : Prop where
  to : ∀ (s : Shared) (ws : List Value), ws.length = ks.length → BindsTo s fd ⟨[], ks.zip ws⟩ (ps.zip (g ws))
  rel : ∀ {zs : List V} {ws : List Value}, Vals zs ws → Vals (gV zs) (g ws)
def tCallW (n : Nat) (sp : Sp) (gV : List V → List V) (E : XK) (tk : TA) : TE := fun σ H Q => tk σ H fun zs H2 => zs.length = n ∧ sp (gV zs) H2 Q E
theorem pe_callW {X : Cx} {CX : CXT} {k : Nat} {f : Addr} {fd : FuncData} {ps ks : List Str} {sp : Sp} {E : XK} {x : Str} {p pos : Pos} {kws : List Keyword} {tk : TA} {g : List Value → List Value} {gV : List V → List V}
    (F : FnOk X.prog X.w X.K X.mg X.base CX k f fd ps sp) (hr : Room k X.A) (hg : Gl X x) (hm : X.mg x = some (.ref f)) (hk : PySem.W.keepIn X.K (.ref f) = true) (hb : KW0 fd ps ks g gV) (hx : Passes CX X E) (hkw : PK X kws tk)
    (hall : (backToKw pos (keywordEach kws X.env)).all (·.1.isSome) = true := by rfl) (hks : (backToKw pos (keywordEach kws X.env)).filterMap (·.1) = ks := by rfl) (hdb : (x == ("__debug__" : Str)) = false := by decide)
    (hpl : ((backTo pos (starEach [] X.env)).any (·.1) || (backToKw pos (keywordEach kws X.env)).any (·.1.isNone)) = false := by rfl) : PE X (.Call (.Name x p) [] kws pos) (tCallW ks.length sp gV E tk) := by
  refine ⟨fun pins s σ H Q I h => ?_⟩
  refine wpAny_Call_Name_kw (ld_glob I hg hm ?_ hdb)
  refine PySem.W.callWith_KW0 (h₀ := X.base) I.ok.mod.kin hk hall ?_ hpl
  refine thn (hkw.run pos pins s σ H _ I h) fun ws s2 ⟨zs, H2, I2, rz, l2, q2⟩ => ⟨I2.kIn, ?_⟩
  rw [hks]
  have r2 := hb.rel rz
  refine wpAny_call (codeAny_mono (F.run X.A X.stack s2 H2 ⟨[], ks.zip ws⟩ (g ws) (gV zs) Q E hr I2.env0 (hb.to s2 ws (rz.length.symm.trans l2)) r2 q2) fun r s' hq => ?_)
  cases r with
  | error e => exact hx pins σ H2 s2 e s' I2 hq
  | ok fl =>
    cases fl with
    | ret u => exact I2.after hq
    | next => exact False.elim hq
    | brk => exact False.elim hq
    | cont => exact False.elim hq
end Ag
namespace Ag
open PySem PySem.Spec PyProof.Rows L2
theorem dpall_bools {K : PySem.W.Frag} {H : Hp} : ∀ bs : List Bool, DpAll K H (bs.map V.bl) (bs.map PyData.bool)
  | [] => .nil
  | b :: r => .cons (.bl b) (dpall_bools r)
theorem okd_bools {n : Nat} {bs : List Bool} (h : bs.length ≤ 1000) : okd (n + 2) (.list (bs.map PyData.bool)) = true := by
  simp only [okd, List.length_map, decide_eq_true h, Bool.true_and, List.all_eq_true]
  intro d hd
  obtain ⟨b, _, rfl⟩ := List.mem_map.mp hd
  rfl
theorem sizes_signs (l : List Nat) : ((l.map fun c => (⟨#[c]⟩ : Str)).map (·.length)).sum = l.length := by
  induction l with
  | nil => rfl
  | cons c r ih =>
    rw [List.map_cons, List.map_cons, List.sum_cons, ih, List.length_cons]
    show 1 + r.length = r.length + 1
    omega
theorem itm_abc {K : PySem.W.Frag} {H : Hp} {b : Addr} : Itm K H b (.str "abcdefghijklmnopqrstuvwxyz") (abc.map fun c => V.str ⟨#[c]⟩) := .inl ⟨_, rfl, by rw [abc_str, SX.S_len, abc_len]; decide, by rw [abc_str]⟩
end Ag
namespace Ag
open PySem PySem.Spec PyProof.Rows L2
theorem tyx_kp {K : PySem.W.Frag} {b : Addr} {H H' : Hp} (k : Kp b H H') {x : V} {t : Value} (h : TyX K H x t) (n : x ≠ .ref b) : TyX K H' x t := by
  have nb : ∀ a, V.ref a ≠ .ref b → a ≠ b := fun a z e => z (by rw [e])
  cases h with
  | base h =>
    refine .base ?_
    cases h with
    | non => exact .non
    | bl y => exact .bl y
    | int i => exact .int i
    | str y => exact .str y
    | flt y => exact .flt y
    | lst e => exact .lst (k _ _ e (nb _ n))
    | frz e => exact .frz (k _ _ e (nb _ n))
    | tup e => exact .tup (k _ _ e (nb _ n))
    | dK e => exact .dK (k _ _ e (nb _ n))
    | dT e => exact .dT (k _ _ e (nb _ n))
    | ins e cl ha hn htk hm => exact .ins (k _ _ e (nb _ n)) cl ha hn htk hm
  | byt y => exact .byt y
  | set e => exact .set (k _ _ e (nb _ n))
  | kList e c => exact .kList e c
  | kTuple e c => exact .kTuple e c
  | kDict e c => exact .kDict e c
  | fTuple e => exact .fTuple (k _ _ e (nb _ n))
  | fDict e => exact .fDict (k _ _ e (nb _ n))
theorem tyx_same {K : PySem.W.Frag} {H H' : Hp} (k : Same H H') {x : V} {t : Value} (h : TyX K H x t) : TyX K H' x t := by
  cases h with
  | base h =>
    refine .base ?_
    cases h with
    | non => exact .non
    | bl y => exact .bl y
    | int i => exact .int i
    | str y => exact .str y
    | flt y => exact .flt y
    | lst e => exact .lst (k _ _ e)
    | frz e => exact .frz (k _ _ e)
    | tup e => exact .tup (k _ _ e)
    | dK e => exact .dK (k _ _ e)
    | dT e => exact .dT (k _ _ e)
    | ins e cl ha hn htk hm => exact .ins (k _ _ e) cl ha hn htk hm
  | byt y => exact .byt y
  | set e => exact .set (k _ _ e)
  | kList e c => exact .kList e c
  | kTuple e c => exact .kTuple e c
  | kDict e c => exact .kDict e c
  | fTuple e => exact .fTuple (k _ _ e)
  | fDict e => exact .fDict (k _ _ e)
theorem NoStr.kp {K : PySem.W.Frag} {b : Addr} {H H' : Hp} (k : Kp b H H') {x : V} (h : NoStr K H x) (n : x ≠ .ref b) : NoStr K H' x := by
  obtain ⟨t, h1, h2⟩ := h
  exact ⟨t, tyx_kp k h1 n, h2⟩
theorem NoStr.same {K : PySem.W.Frag} {H H' : Hp} (k : Same H H') {x : V} (h : NoStr K H x) : NoStr K H' x := by
  obtain ⟨t, h1, h2⟩ := h
  exact ⟨t, tyx_same k h1, h2⟩
theorem nostr_non {K : PySem.W.Frag} {H : Hp} : NoStr K H .non := ⟨_, .base .non, kit_ty (by decide +kernel)⟩
theorem nostr_int {K : PySem.W.Frag} {H : Hp} {i : Int} : NoStr K H (.int i) := ⟨_, .base (.int i), kit_ty (by decide +kernel)⟩
theorem nostr_bl {K : PySem.W.Frag} {H : Hp} {c : Bool} : NoStr K H (.bl c) := ⟨_, .base (.bl c), kit_ty (by decide +kernel)⟩
theorem nostr_tup {K : PySem.W.Frag} {H : Hp} {a : Addr} {xs : List V} (h : H a = some (.tup xs)) : NoStr K H (.ref a) := ⟨_, .base (.tup h), kit_ty (by decide +kernel)⟩
theorem nostr_lst {K : PySem.W.Frag} {H : Hp} {a : Addr} {xs : List V} (h : H a = some (.lst xs)) : NoStr K H (.ref a) := ⟨_, .base (.lst h), kit_ty (by decide +kernel)⟩
/-- 'join of drawn signs': the turn's word, and what it is in the end -/
def Sgn (b l D : Addr) (H0 : Hp) (i : Nat) (H' : Hp) : Prop := ∃ cs : List Nat, Low cs ∧ cs.length = i ∧ Kp b H0 H' ∧ Bag H' b l ∧ H' D = some (.lst ((cs.map fun c => (⟨#[c]⟩ : Str)).map V.str))
end Ag
namespace Ag
open PySem PySem.Spec PyProof.Rows L2
/-- whether a value is a letter, a name -/
def LetIs (K : PySem.W.Frag) (H : Hp) (x : V) (ok : Bool) : Prop := (∃ cs : List Nat, x = .str (SX.S cs) ∧ cs.length ≤ 1000 ∧ ok = isLet cs) ∨ (NoStr K H x ∧ ok = false)
def NameIs (K : PySem.W.Frag) (H : Hp) (x : V) (ok : Bool) : Prop := (∃ cs : List Nat, x = .str (SX.S cs) ∧ cs.length ≤ 1000 ∧ ok = isNm cs) ∨ (NoStr K H x ∧ ok = false)
theorem name_is {K : PySem.W.Frag} {H : Hp} {cs : List Nat} (h : cs.length ≤ 1000) : NameIs K H (.str (SX.S cs)) (isNm cs) := .inl ⟨cs, rfl, h, rfl⟩
theorem NameIs.same {K : PySem.W.Frag} {H H' : Hp} (s : Same H H') {x : V} {ok : Bool} (h : NameIs K H x ok) : NameIs K H' x ok := by
  rcases h with h | ⟨h, e⟩
  · exact .inl h
  · exact .inr ⟨h.same s, e⟩
end Ag
namespace Ag
open PySem PySem.Spec PyProof.Rows L2
/-! ### a def of the module, as the top leaves it -/
structure Df (K : PySem.W.Frag) (mg : Str → Option Value) (x : Str) (st : Stmt) (ps : List Str) (f : Addr) (fd : FuncData) : Prop where
  fn : Fun K x x st f fd
  mg : mg x = some (.ref f)
  bi : Binds K fd ps []
theorem Df.cal {P : Program} {w : World} {K : PySem.W.Frag} {mg : Str → Option Value} {base : Heap} {x : Str} {st : Stmt} {ps : List Str} {f : Addr} {fd : FuncData} {k : Nat} {sp : Sp} (D : Df K mg x st ps f fd) (o : FnOk P w K mg base CX0 k f fd ps sp) : C8.Cal P w K mg base k x sp [] :=
  ⟨f, fd, ps, [], o, D.mg, D.fn.kp, D.bi, .nil⟩
theorem df_mk {K : PySem.W.Frag} {h : Heap} {mg : Str → Option Value} {x : Str} {st : Stmt} {ps : List Str} {f : Addr} {od an : Option Addr} {sl : Array (Option Value)} {oc kV dc pm cd ct : Value} (X : K.In h) (G : h.Ns mainGlobals mg)
    (hb : ∀ (kV doc pm : Value) (an : Option Addr) (cdv ct : Value) (us : List Value), us.length = ps.length → bindArgs (PySem.W.fnOf x x (defArgs st) (defBody st) (defScope st) .none kV doc pm an cdv ct) ⟨us, []⟩ = pure (ps.zip us))
    (a : PySem.W.nsIn K mainGlobals x = some (some (.ref f))) (l : K.lookup f = some ⟨oc, od, .func (PySem.W.fnOf x x (defArgs st) (defBody st) (defScope st) .none kV dc pm an cd ct), sl⟩) (c : PySem.W.codeIn K cd x = true) (k : PySem.W.keepIn K (.ref f) = true) :
    Df K mg x st ps f (PySem.W.fnOf x x (defArgs st) (defBody st) (defScope st) .none kV dc pm an cd ct) := by
  have F := fun_mk (st := st) l c k
  exact ⟨F, PySem.W.mg_of X G a, F.binds hb⟩
theorem Df.kw {K : PySem.W.Frag} {mg : Str → Option Value} {x : Str} {st : Stmt} {ps ks : List Str} {f : Addr} {fd : FuncData} {g : List Value → List Value} {gV : List V → List V} (D : Df K mg x st ps f fd)
    (h : ∀ (kV doc pm : Value) (an : Option Addr) (cdv ct : Value) (ws : List Value), ws.length = ks.length → bindArgs (PySem.W.fnOf x x (defArgs st) (defBody st) (defScope st) .none kV doc pm an cdv ct) ⟨[], ks.zip ws⟩ = pure (ps.zip (g ws)))
    (rel : ∀ {zs : List V} {ws : List Value}, Vals zs ws → Vals (gV zs) (g ws)) : KW0 fd ps ks g gV := by
  obtain ⟨oc, od, kV, doc, pm, an, cdv, ct, osl, rfl, lk, hcd⟩ := D.fn.ex
  exact ⟨fun s ws l => .of_eq (h kV doc pm an cdv ct ws l), rel⟩
end Ag
namespace Ag
open PySem PySem.Spec PyProof.Rows L2
theorem tseq {t u : TS} {D : Ends} {σ : L2.St} {H : Hp} (Mid : L2.St → Hp → Prop) (h2 : ∀ σ' H', Mid σ' H' → u D σ' H') (h1 : (∀ σ' H', Mid σ' H' → u D σ' H') → tSeq t u D σ H) : tSeq t u D σ H := h1 h2
theorem kp_upd {b : Addr} {H : Hp} {o : HO} : Kp b H (upd H b o) := fun c u e n => by rw [upd_ne n]; exact e
theorem fm_in (t : Int) {m : Int} (hm : 0 < m) : 0 ≤ t.fmod m ∧ t.fmod m < m := by
  rw [Int.fmod_eq_emod_of_nonneg t (by omega)]
  exact ⟨Int.emod_nonneg t (by omega), Int.emod_lt_of_pos t hm⟩
end Ag
namespace Ag
open PySem PySem.Spec PyProof.Rows L2
structure LikeM (mg : Str → Option Value) : Prop where
  isi : mg "isinstance" = none
  dict : mg "dict" = none
  list : mg "list" = none
  tuple : mg "tuple" = none
  bool : mg "bool" = none
  int : mg "int" = none
  str : mg "str" = none
  len : mg "len" = none
  all : mg "all" = none
  zip : mg "zip" = none
  sorted : mg "sorted" = none
structure NamesM (mg : Str → Option Value) : Prop where
  range : mg "range" = none
  int : mg "int" = none
  len : mg "len" = none
structure NameM (mg : Str → Option Value) : Prop where
  isi : mg "isinstance" = none
  str : mg "str" = none
  len : mg "len" = none
  all : mg "all" = none
  letters : ∃ t, mg "LETTERS" = some (.str "abcdefghijklmnopqrstuvwxyz" t)
  longest : ∃ t, mg "LONGEST_NAME" = some (.int 6 t)
end Ag
namespace Ag
open PySem PySem.Spec PyProof.Rows L2
/-! ### what may be read stays so -/
def RdLe (H H' : Hp) : Prop := ∀ c u, Rd H c u → Rd H' c u
theorem RdLe.of {H H' : Hp} (s : Same H H') : RdLe H H' := fun c u h => by
  rcases h with h | ⟨o, h⟩
  · exact .inl (s _ _ h)
  · exact .inr ⟨o, s _ _ h⟩
theorem RdLe.lock {H : Hp} {a : Addr} {u : HO} (h : H a = some u) (mu : Mut (some u)) (od : Obj) : RdLe H (upd H a (.frz od u)) := fun c v q => by
  by_cases e : c = a
  · subst e
    rcases q with q | ⟨o, q⟩
    · rw [h] at q
      cases q
      exact .inr ⟨od, upd_same⟩
    · rw [h] at q
      cases q
      exact mu.elim
  · rcases q with q | ⟨o, q⟩
    · exact .inl (by rw [upd_ne e]; exact q)
    · exact .inr ⟨o, by rw [upd_ne e]; exact q⟩
theorem RdLe.seqL {K : PySem.W.Frag} {H H' : Hp} {a : Addr} {xs : List V} (s : RdLe H H') (h : SqL K H a xs) : SqL K H' a xs := h.imp (s _ _) id
theorem RdLe.seqT {K : PySem.W.Frag} {H H' : Hp} {a : Addr} {xs : List V} (s : RdLe H H') (h : SqT K H a xs) : SqT K H' a xs := h.imp (s _ _) id
theorem Dp_rd {K : PySem.W.Frag} {H H' : Hp} (s : RdLe H H') {d : PyData} {v : V} (h : Dp K H v d) : Dp K H' v d :=
  Dp.rec (motive_1 := fun v d _ => Dp K H' v d) (motive_2 := fun vs ds _ => DpAll K H' vs ds) .non .bl .int .str
    (fun q _ ih => .lst (s.seqL q) ih) (fun q _ ih => .tup (s.seqT q) ih) .nil (fun _ _ a b => .cons a b) h
/-! ### data with dicts, the order of whose keys means nothing -/
def keyD : Key → PyData
  | .inl i => .int i
  | .inr x => .str x
mutual
inductive Da (K : PySem.W.Frag) (H : Hp) : V → PyData → Prop
  | non : Da K H .non .none
  | bl (b : Bool) : Da K H (.bl b) (.bool b)
  | int (i : Int) : Da K H (.int i) (.int i)
  | str (x : Str) : Da K H (.str x) (.str x)
  | lst {a : Addr} {xs : List V} {ds : List PyData} : SqL K H a xs → DaAll K H xs ds → Da K H (.ref a) (.list ds)
  | tup {a : Addr} {xs : List V} {ds : List PyData} : SqT K H a xs → DaAll K H xs ds → Da K H (.ref a) (.tuple ds)
  | dic {a : Addr} {kvs kvs' : List (Key × V)} {es : List (PyData × PyData)} : H a = some (.dK kvs) → kvs.Perm kvs' → (kvs.map (·.1)).Nodup → Paired (fun kv e => e.1 = keyD kv.1 ∧ Dp K H kv.2 e.2) kvs' es → Da K H (.ref a) (.dict es)
inductive DaAll (K : PySem.W.Frag) (H : Hp) : List V → List PyData → Prop
  | nil : DaAll K H [] []
  | cons {v : V} {vs : List V} {d : PyData} {ds : List PyData} : Da K H v d → DaAll K H vs ds → DaAll K H (v :: vs) (d :: ds)
end
theorem Da_of {K : PySem.W.Frag} {H : Hp} {d : PyData} {v : V} (h : Dp K H v d) : Da K H v d :=
  Dp.rec (motive_1 := fun v d _ => Da K H v d) (motive_2 := fun vs ds _ => DaAll K H vs ds) .non .bl .int .str
    (fun q _ ih => .lst q ih) (fun q _ ih => .tup q ih) .nil (fun _ _ a b => .cons a b) h
theorem paired_imp {α β : Type} {F G : α → β → Prop} (f : ∀ a b, F a b → G a b) : ∀ {l₁ : List α} {l₂ : List β}, Paired F l₁ l₂ → Paired G l₁ l₂
  | _, _, .nil => .nil
  | _, _, .cons r t => .cons (f _ _ r) (paired_imp f t)
theorem Da_same {K : PySem.W.Frag} {H H' : Hp} (s : Same H H') {d : PyData} {v : V} (h : Da K H v d) : Da K H' v d :=
  Da.rec (motive_1 := fun v d _ => Da K H' v d) (motive_2 := fun vs ds _ => DaAll K H' vs ds) .non .bl .int .str
    (fun q _ ih => .lst (s.seq q) ih) (fun q _ ih => .tup (sameT s q) ih) (fun q p n r => .dic (s _ _ q) p n (paired_imp (fun _ _ z => ⟨z.1, Dp_same s z.2⟩) r)) .nil (fun _ _ a b => .cons a b) h
theorem daall_len {K : PySem.W.Frag} {H : Hp} : ∀ {vs : List V} {ds : List PyData}, DaAll K H vs ds → vs.length = ds.length
  | _, _, .nil => rfl
  | _, _, .cons _ b => congrArg (· + 1) (daall_len b)
theorem daall_get {K : PySem.W.Frag} {H : Hp} : ∀ {vs : List V} {ds : List PyData} {i : Nat} {v : V}, DaAll K H vs ds → vs[i]? = some v → ∃ d, ds[i]? = some d ∧ Da K H v d
  | _, _, _, _, .nil, e => by simp at e
  | _, _, 0, _, .cons a _, e => by
    simp at e
    subst e
    exact ⟨_, rfl, a⟩
  | _, _, i + 1, _, .cons _ b, e => by
    obtain ⟨d, h1, h2⟩ := daall_get (i := i) b (by simpa using e)
    exact ⟨d, by simpa using h1, h2⟩
/-- keys that are texts -/
def isStrD : PyData → Bool
  | .str x => x.cps.all (· < 0x110000)
  | _ => false
/-- less than n deep, at most 1000 items in a list, less than 64 texts as keys of a dict -/
def oka : Nat → PyData → Bool
  | 0, _ => false
  | n + 1, .list ds => decide (ds.length ≤ 1000) && ds.all (oka n)
  | n + 1, .tuple ds => decide (ds.length ≤ 1000) && ds.all (oka n)
  | n + 1, .dict es => decide (es.length < 64) && es.all fun e => isStrD e.1 && oka n e.2
  | _ + 1, _ => true
theorem da_tyx {K : PySem.W.Frag} {H : Hp} {v : V} {d : PyData} (h : Da K H v d) : TyX K H v (.type (tyD d)) := by
  cases h with
  | non => exact .base .non
  | bl b => exact .base (.bl b)
  | int i => exact .base (.int i)
  | str x => exact .base (.str x)
  | lst q _ =>
    rcases q with (q | ⟨o, q⟩) | ⟨o, its, n, e, c, _⟩
    · exact .base (.lst q)
    · exact .base (.frz q)
    · exact .kList e c
  | tup q _ =>
    rcases q with (q | ⟨o, q⟩) | ⟨o, its, n, e, c, _⟩
    · exact .base (.tup q)
    · exact .fTuple q
    · exact .kTuple e c
  | dic q _ _ _ => exact .base (.dK q)
theorem isD_nodict {d : PyData} (h : ∀ es, d ≠ .dict es) : isD "dict" d = false := by
  cases d with
  | dict es => exact absurd rfl (h es)
  | _ => simp only [isD, tyD]; decide +kernel
theorem isD_dic {es : List (PyData × PyData)} : isD "dict" (.dict es) = true := by
  simp only [isD, tyD]
  decide +kernel
end Ag
namespace Ag
open PySem PySem.Spec PyProof.Rows L2
/-! ### two sorted lists of the same texts are one -/
theorem lc_anti : ∀ a b : List Nat, ltCps a b = false → ltCps b a = false → a = b
  | [], [], _, _ => rfl
  | [], _ :: _, h, _ => by simp [ltCps] at h
  | _ :: _, [], _, h => by simp [ltCps] at h
  | a :: r, b :: t, h1, h2 => by
    simp only [ltCps, Bool.or_eq_false_iff, decide_eq_false_iff_not, Bool.and_eq_false_iff, beq_eq_false_iff_ne] at h1 h2
    have e : a = b := by omega
    subst e
    have k1 : ltCps r t = false := by rcases h1.2 with z | z; exact absurd rfl z; exact z
    have k2 : ltCps t r = false := by rcases h2.2 with z | z; exact absurd rfl z; exact z
    rw [lc_anti r t k1 k2]
theorem lc_trans : ∀ a b c : List Nat, ltCps b a = false → ltCps c b = false → ltCps c a = false
  | [], _, [], _, _ => rfl
  | [], _, _ :: _, _, _ => rfl
  | _ :: _, [], _, h, _ => by simp [ltCps] at h
  | _ :: _, _ :: _, [], _, h => by simp [ltCps] at h
  | a :: r, b :: t, c :: u, h1, h2 => by
    simp only [ltCps, Bool.or_eq_false_iff, decide_eq_false_iff_not, Bool.and_eq_false_iff, beq_eq_false_iff_ne] at h1 h2 ⊢
    refine ⟨by omega, ?_⟩
    by_cases e : c = a
    · right
      have e1 : b = a := by omega
      have e2 : c = b := by omega
      have k1 : ltCps t r = false := by rcases h1.2 with z | z; exact absurd e1 z; exact z
      have k2 : ltCps u t = false := by rcases h2.2 with z | z; exact absurd e2 z; exact z
      exact lc_trans r t u k1 k2
    · exact .inl e
theorem rising_all : ∀ (l : List Str) (p : Str), risingS p l = true → (∀ x ∈ l, ltCps x.cps.toList p.cps.toList = false) ∧ l.Pairwise (fun a b => ltCps b.cps.toList a.cps.toList = false)
  | [], _, _ => ⟨fun x h => (by cases h), List.Pairwise.nil⟩
  | y :: r, p, h => by
    simp only [risingS, Bool.and_eq_true, Bool.not_eq_true'] at h
    obtain ⟨h1, h2⟩ := rising_all r y h.2
    refine ⟨fun x hx => ?_, .cons h1 h2⟩
    rcases List.mem_cons.mp hx with rfl | hx
    · exact h.1
    · exact lc_trans _ _ _ h.1 (h1 x hx)
theorem sorted_pw {l : List Str} (h : sortedS l = true) : l.Pairwise (fun a b => ltCps b.cps.toList a.cps.toList = false) := by
  cases l with
  | nil => exact .nil
  | cons x r =>
    obtain ⟨h1, h2⟩ := rising_all r x h
    exact .cons h1 h2
theorem perm_one {α : Type} {le : α → α → Prop} (anti : ∀ a b, le a b → le b a → a = b) : ∀ {a b : List α}, a.Perm b → a.Pairwise le → b.Pairwise le → a = b
  | [], [], _, _, _ => rfl
  | [], y :: t, p, _, _ => absurd p.length_eq (by simp)
  | x :: r, [], p, _, _ => absurd p.length_eq (by simp)
  | x :: r, y :: t, p, ha, hb => by
    obtain ⟨a1, a2⟩ := List.pairwise_cons.mp ha
    obtain ⟨b1, b2⟩ := List.pairwise_cons.mp hb
    have e : x = y := by
      have hx : x ∈ y :: t := p.mem_iff.mp (by simp)
      have hy : y ∈ x :: r := p.mem_iff.mpr (by simp)
      rcases List.mem_cons.mp hx with e | hx
      · exact e
      rcases List.mem_cons.mp hy with e | hy
      · exact e.symm
      exact anti _ _ (a1 y hy) (b1 x hx)
    subst e
    rw [perm_one anti p.cons_inv a2 b2]
theorem sorted_one {a b : List Str} (p : a.Perm b) (ha : sortedS a = true) (hb : sortedS b = true) : a = b := by
  refine perm_one (le := fun a b => ltCps b.cps.toList a.cps.toList = false) (fun x y h1 h2 => ?_) p (sorted_pw ha) (sorted_pw hb)
  have e := lc_anti _ _ h2 h1
  exact TL.ext_tl e
theorem dpall_strs {K : PySem.W.Frag} {H : Hp} : ∀ ys : List Str, DpAll K H (ys.map V.str) (ys.map PyData.str)
  | [] => .nil
  | y :: r => .cons (.str y) (dpall_strs r)
end Ag
namespace Ag
open PySem PySem.Spec PyProof.Rows L2
theorem lay_strs : ∀ ys : List Str, (∀ y ∈ ys, (y.cps.all (· < 0x110000)) = true) → PyData.canLayAll0 (ys.map PyData.str) = true
  | [], _ => rfl
  | y :: r, h => by
    show (PyData.canLay0 (.str y) && PyData.canLayAll0 (r.map PyData.str)) = true
    rw [lay_strs r fun z hz => h z (List.mem_cons_of_mem _ hz), Bool.and_true]
    exact h y (by simp)
theorem depth_strs : ∀ ys : List Str, PyData.depthAll (ys.map PyData.str) = 0
  | [] => rfl
  | y :: r => by
    show max 0 (PyData.depthAll (r.map PyData.str)) = 0
    rw [depth_strs r]
    rfl
theorem shaped_strs {ys : List Str} (h : ∀ y ∈ ys, (y.cps.all (· < 0x110000)) = true) : SeqAt.shaped (.list (ys.map PyData.str)) = true := by
  unfold SeqAt.shaped
  rw [Bool.and_eq_true]
  refine ⟨lay_strs ys h, ?_⟩
  show decide (PyData.depthAll (ys.map PyData.str) + 1 ≤ 64) = true
  rw [depth_strs]
  decide
/-- the entries of a dict with text keys, by its data -/
theorem dic_keys {n : Nat} {kvs : List (Key × V)} {es : List (PyData × PyData)} {R : Key × V → PyData × PyData → Prop} (hr : ∀ kv e, R kv e → e.1 = keyD kv.1) (ok : oka (n + 1) (.dict es) = true) (r : Paired R kvs es) :
    ∃ ks : List Str, (kvs.map fun kv => kV kv.1) = ks.map V.str ∧ ks.length = es.length ∧ (∀ y ∈ ks, (y.cps.all (· < 0x110000)) = true) ∧ es.map (·.1) = ks.map PyData.str ∧ kvs.map (·.1) = ks.map Sum.inr := by
  have ok2 : ∀ e ∈ es, isStrD e.1 = true := by
    simp only [oka, Bool.and_eq_true, List.all_eq_true] at ok
    exact fun e he => (ok.2 e he).1
  clear ok
  induction r with
  | nil => exact ⟨[], rfl, rfl, fun y h => (by cases h), rfl, rfl⟩
  | @cons kv e kvs es h t ih =>
    obtain ⟨ks, h1, h2, h3, h4, h5⟩ := ih fun e he => ok2 e (List.mem_cons_of_mem _ he)
    have he := hr _ _ h
    have hs := ok2 e (by simp)
    obtain ⟨k, v⟩ := kv
    cases k with
    | inl i => rw [he] at hs; cases hs
    | inr x =>
      rw [he] at hs
      refine ⟨x :: ks, by rw [List.map_cons, h1]; rfl, by simp [h2], fun y hy => ?_, by rw [List.map_cons, h4, he]; rfl, by rw [List.map_cons, h5]; rfl⟩
      rcases List.mem_cons.mp hy with rfl | hy
      · exact hs
      · exact h3 y hy
theorem valV_of {kvs : List (Key × V)} (nd : (kvs.map (·.1)).Nodup) {k : Key} {v : V} (h : (k, v) ∈ kvs) : valV kvs k = some v := by
  induction kvs with
  | nil => cases h
  | cons p r ih =>
    rw [List.map_cons, List.nodup_cons] at nd
    rcases List.mem_cons.mp h with e | h
    · rw [← e]
      exact valV_pos rfl
    · rw [valV_neg]
      · exact ih nd.2 h
      · intro e
        exact nd.1 (by rw [e]; exact List.mem_map.mpr ⟨_, h, rfl⟩)
theorem paired_mem {α β : Type} {R : α → β → Prop} : ∀ {l : List α} {m : List β}, Paired R l m → ∀ {a : α}, a ∈ l → ∃ b, b ∈ m ∧ R a b
  | _, _, .nil, _, h => by cases h
  | _, _, .cons r t, a, h => by
    rcases List.mem_cons.mp h with rfl | h
    · exact ⟨_, by simp, r⟩
    · obtain ⟨b, h1, h2⟩ := paired_mem t h
      exact ⟨b, by simp [h1], h2⟩
theorem paired_mem2 {α β : Type} {R : α → β → Prop} : ∀ {l : List α} {m : List β}, Paired R l m → ∀ {b : β}, b ∈ m → ∃ a, a ∈ l ∧ R a b
  | _, _, .nil, _, h => by cases h
  | _, _, .cons r t, b, h => by
    rcases List.mem_cons.mp h with rfl | h
    · exact ⟨_, by simp, r⟩
    · obtain ⟨a, h1, h2⟩ := paired_mem2 t h
      exact ⟨a, by simp [h1], h2⟩
end Ag

namespace Ag
open PySem PySem.Spec PyProof.Rows L2
/-! ### formulas and shapes -/
inductive Fm where
  | fls
  | atom (w : List Nat)
  | hole (c : List Nat)
  | bin (k : Fin 3) (a b : Fm)
  deriving DecidableEq
/-- the joints: 0 then, 1 and, otherwise or -/
def kd (k : Fin 3) : Str := match k with
  | 0 => "then"
  | 1 => "and"
  | 2 => "or"
def Fm.dat : Fm → PyData
  | .fls => .tuple [.str "false"]
  | .atom w => .tuple [.str "atom", .str (SX.S w)]
  | .hole c => .tuple [.str "hole", .str (SX.S c)]
  | .bin k a b => .tuple [.str (kd k), a.dat, b.dat]
def Fr (K : PySem.W.Frag) (H : Hp) (v : V) (t : Fm) : Prop := Dp K H v t.dat
section
variable {K : PySem.W.Frag} {H H' : Hp} {v x y : V} {b l : Addr}
theorem dpall2 {xs : List V} {d e : PyData} (h : DpAll K H xs [d, e]) : ∃ x y, xs = [x, y] ∧ Dp K H x d ∧ Dp K H y e := by
  cases h with
  | cons h1 h => cases h with
    | cons h2 h =>
      cases h
      exact ⟨_, _, rfl, h1, h2⟩
theorem dpall3 {xs : List V} {d e g : PyData} (h : DpAll K H xs [d, e, g]) : ∃ x y z, xs = [x, y, z] ∧ Dp K H x d ∧ Dp K H y e ∧ Dp K H z g := by
  cases h with
  | cons h1 h => cases h with
    | cons h2 h => cases h with
      | cons h3 h =>
        cases h
        exact ⟨_, _, _, rfl, h1, h2, h3⟩
theorem fr_fls (h : Fr K H v .fls) : ∃ p, v = .ref p ∧ SqT K H p [.str "false"] := by
  cases h with
  | tup q r =>
    cases r with
    | cons h1 h =>
      cases h
      cases h1
      exact ⟨_, rfl, q⟩
theorem fr_atom {w : List Nat} (h : Fr K H v (.atom w)) : ∃ p, v = .ref p ∧ SqT K H p [.str "atom", .str (SX.S w)] := by
  cases h with
  | tup q r =>
    obtain ⟨x, y, rfl, h1, h2⟩ := dpall2 r
    cases h1
    cases h2
    exact ⟨_, rfl, q⟩
theorem fr_hole {w : List Nat} (h : Fr K H v (.hole w)) : ∃ p, v = .ref p ∧ SqT K H p [.str "hole", .str (SX.S w)] := by
  cases h with
  | tup q r =>
    obtain ⟨x, y, rfl, h1, h2⟩ := dpall2 r
    cases h1
    cases h2
    exact ⟨_, rfl, q⟩
theorem fr_bin {k : Fin 3} {s t : Fm} (h : Fr K H v (.bin k s t)) : ∃ p x y, v = .ref p ∧ SqT K H p [.str (kd k), x, y] ∧ Fr K H x s ∧ Fr K H y t := by
  cases h with
  | tup q r =>
    obtain ⟨x, y, z, rfl, h1, h2, h3⟩ := dpall3 r
    cases h1
    exact ⟨_, _, _, rfl, q, h2, h3⟩
theorem mk_fls {p : Addr} (h : SqT K H p [.str "false"]) : Fr K H (.ref p) .fls := .tup h (.cons (.str _) .nil)
theorem mk_atom {p : Addr} {w : List Nat} (h : SqT K H p [.str "atom", .str (SX.S w)]) : Fr K H (.ref p) (.atom w) := .tup h (.cons (.str _) (.cons (.str _) .nil))
theorem mk_hole {p : Addr} {w : List Nat} (h : SqT K H p [.str "hole", .str (SX.S w)]) : Fr K H (.ref p) (.hole w) := .tup h (.cons (.str _) (.cons (.str _) .nil))
theorem mk_bin {p : Addr} {k : Fin 3} {s t : Fm} (h : SqT K H p [.str (kd k), x, y]) (hs : Fr K H x s) (ht : Fr K H y t) : Fr K H (.ref p) (.bin k s t) := .tup h (.cons (.str _) (.cons hs (.cons ht .nil)))
theorem Fr.same (s : Same H H') {t : Fm} (h : Fr K H v t) : Fr K H' v t := Dp_same s h
theorem Fr.rd (s : RdLe H H') {t : Fm} (h : Fr K H v t) : Fr K H' v t := Dp_rd s h
theorem kp_tup (k : Kp b H H') (g : Bag H b l) {p : Addr} {xs : List V} (h : SqT K H p xs) : SqT K H' p xs := by
  obtain ⟨ns, at', big, seed, cnt, h1, _⟩ := g
  rcases h with (h | ⟨o, h⟩) | h
  · exact .inl (.inl (k _ _ h (ne_of h h1 (by intro z; cases z))))
  · exact .inl (.inr ⟨o, k _ _ h (ne_of h h1 (by intro z; cases z))⟩)
  · exact .inr h
theorem Fr.kp (k : Kp b H H') (g : Bag H b l) : ∀ {t : Fm} {v : V}, Fr K H v t → Fr K H' v t
  | .fls, _, h => by
    obtain ⟨p, rfl, q⟩ := fr_fls h
    exact mk_fls (kp_tup k g q)
  | .atom w, _, h => by
    obtain ⟨p, rfl, q⟩ := fr_atom h
    exact mk_atom (kp_tup k g q)
  | .hole w, _, h => by
    obtain ⟨p, rfl, q⟩ := fr_hole h
    exact mk_hole (kp_tup k g q)
  | .bin j s t, _, h => by
    obtain ⟨p, x, y, rfl, q, hs, ht⟩ := fr_bin h
    exact mk_bin (kp_tup k g q) (Fr.kp k g hs) (Fr.kp k g ht)
end
/-- less than n deep, atoms of ws, holes of hs -/
def okF (ws hs : List (List Nat)) : Nat → Fm → Prop
  | 0, _ => False
  | _ + 1, .fls => True
  | _ + 1, .atom w => w ∈ ws
  | _ + 1, .hole c => c ∈ hs
  | n + 1, .bin _ a b => okF ws hs n a ∧ okF ws hs n b
theorem okF.up {ws hs : List (List Nat)} : ∀ {n : Nat} {t : Fm}, okF ws hs n t → okF ws hs (n + 1) t
  | 0, _, h => h.elim
  | _ + 1, .fls, _ => trivial
  | _ + 1, .atom _, h => h
  | _ + 1, .hole _, h => h
  | _ + 1, .bin _ _ _, h => ⟨okF.up h.1, okF.up h.2⟩
theorem okF.le {ws hs : List (List Nat)} {t : Fm} {n m : Nat} (h : okF ws hs n t) (e : n ≤ m) : okF ws hs m t := by
  induction e with
  | refl => exact h
  | step _ ih => exact ih.up
theorem okF.holes {ws hs hs' : List (List Nat)} (hh : ∀ c ∈ hs, c ∈ hs') : ∀ {n : Nat} {t : Fm}, okF ws hs n t → okF ws hs' n t
  | 0, _, h => h.elim
  | _ + 1, .fls, _ => trivial
  | _ + 1, .atom _, h => h
  | _ + 1, .hole _, h => hh _ h
  | _ + 1, .bin _ _ _, h => ⟨okF.holes hh h.1, okF.holes hh h.2⟩
theorem atI_kd (k : Fin 3) : atI ([.str "then", .str "and", .str "or"] : List V) ((k.val : Nat) : Int) = some (.str (kd k)) := by
  match k with
  | 0 => rfl
  | 1 => rfl
  | 2 => rfl
theorem kd_inj {k j : Fin 3} : kd k = kd j → k = j := by
  revert k j
  decide +kernel
theorem kd_atom {k : Fin 3} : kd k ≠ "atom" := by
  revert k
  decide +kernel
theorem kd_hole {k : Fin 3} : kd k ≠ "hole" := by
  revert k
  decide +kernel
theorem kd_false {k : Fin 3} : kd k ≠ "false" := by
  revert k
  decide +kernel
/-! ### equality of data is equality of formulas -/
theorem beq_S (a b : List Nat) : (SX.S a == SX.S b) = decide (a = b) := SX.S_beq_eq
theorem eqvStr (a b : Str) : PyData.eqv (.str a) (.str b) = decide (a = b) := by
  show (a == b) = decide (a = b)
  rw [← SX.S_tl a, ← SX.S_tl b, beq_S]
  by_cases h : a.cps.toList = b.cps.toList
  · rw [decide_eq_true h, decide_eq_true (by rw [h])]
  · rw [decide_eq_false h, decide_eq_false (fun z => h (SX.S_inj z))]
theorem eqv1 (a b : PyData) : PyData.eqv (.tuple [a]) (.tuple [b]) = PyData.eqv a b := by
  show (PyData.eqv a b && true) = _
  rw [Bool.and_true]
theorem eqv2 (a b c d : PyData) : PyData.eqv (.tuple [a, c]) (.tuple [b, d]) = (PyData.eqv a b && PyData.eqv c d) := by
  show (PyData.eqv a b && (PyData.eqv c d && true)) = _
  rw [Bool.and_true]
theorem eqv3 (a b c d e f : PyData) : PyData.eqv (.tuple [a, c, e]) (.tuple [b, d, f]) = (PyData.eqv a b && (PyData.eqv c d && PyData.eqv e f)) := by
  show (PyData.eqv a b && (PyData.eqv c d && (PyData.eqv e f && true))) = _
  rw [Bool.and_true]
theorem eqv12 (a b c : PyData) : PyData.eqv (.tuple [a]) (.tuple [b, c]) = false := by
  show (PyData.eqv a b && false) = false
  rw [Bool.and_false]
theorem eqv21 (a b c : PyData) : PyData.eqv (.tuple [a, c]) (.tuple [b]) = false := by
  show (PyData.eqv a b && false) = false
  rw [Bool.and_false]
theorem eqv13 (a b c d : PyData) : PyData.eqv (.tuple [a]) (.tuple [b, c, d]) = false := by
  show (PyData.eqv a b && false) = false
  rw [Bool.and_false]
theorem eqv31 (a b c d : PyData) : PyData.eqv (.tuple [a, c, d]) (.tuple [b]) = false := by
  show (PyData.eqv a b && false) = false
  rw [Bool.and_false]
theorem eqv23 (a b c d e : PyData) : PyData.eqv (.tuple [a, b]) (.tuple [c, d, e]) = false := by
  show (PyData.eqv a c && (PyData.eqv b d && false)) = false
  rw [Bool.and_false, Bool.and_false]
theorem eqv32 (a b c d e : PyData) : PyData.eqv (.tuple [c, d, e]) (.tuple [a, b]) = false := by
  show (PyData.eqv c a && (PyData.eqv d b && false)) = false
  rw [Bool.and_false, Bool.and_false]
theorem decS (a b : List Nat) : decide (SX.S a = SX.S b) = decide (a = b) := by
  by_cases h : a = b
  · rw [decide_eq_true h, decide_eq_true (by rw [h])]
  · rw [decide_eq_false h, decide_eq_false (fun z => h (SX.S_inj z))]
theorem eqv_dat : ∀ s t : Fm, PyData.eqv s.dat t.dat = decide (s = t)
  | .fls, .fls => by simp only [Fm.dat, eqv1, eqvStr]
  | .fls, .atom _ => by simp only [Fm.dat, eqv12]; rfl
  | .fls, .hole _ => by simp only [Fm.dat, eqv12]; rfl
  | .fls, .bin _ _ _ => by simp only [Fm.dat, eqv13]; rfl
  | .atom _, .fls => by simp only [Fm.dat, eqv21]; rfl
  | .hole _, .fls => by simp only [Fm.dat, eqv21]; rfl
  | .bin _ _ _, .fls => by simp only [Fm.dat, eqv31]; rfl
  | .atom u, .atom v => by
    simp only [Fm.dat, eqv2, eqvStr, decS, Fm.atom.injEq, decide_true, Bool.true_and]
  | .hole u, .hole v => by
    simp only [Fm.dat, eqv2, eqvStr, decS, Fm.hole.injEq, decide_true, Bool.true_and]
  | .atom u, .hole v => by
    have e : decide (("atom" : Str) = "hole") = false := by decide +kernel
    simp only [Fm.dat, eqv2, eqvStr, e, Bool.false_and]
    rfl
  | .hole u, .atom v => by
    have e : decide (("hole" : Str) = "atom") = false := by decide +kernel
    simp only [Fm.dat, eqv2, eqvStr, e, Bool.false_and]
    rfl
  | .atom _, .bin _ _ _ => by simp only [Fm.dat, eqv23]; rfl
  | .hole _, .bin _ _ _ => by simp only [Fm.dat, eqv23]; rfl
  | .bin _ _ _, .atom _ => by simp only [Fm.dat, eqv32]; rfl
  | .bin _ _ _, .hole _ => by simp only [Fm.dat, eqv32]; rfl
  | .bin k a b, .bin j c d => by
    simp only [Fm.dat, eqv3, eqvStr, eqv_dat a c, eqv_dat b d, Fm.bin.injEq, Bool.decide_and]
    have e : decide (kd k = kd j) = decide (k = j) := by
      by_cases h : k = j
      · rw [decide_eq_true h, decide_eq_true (by rw [h])]
      · rw [decide_eq_false h, decide_eq_false (fun z => h (kd_inj z))]
    rw [e]
/-! ### the form of the data -/
theorem low_lay {w : List Nat} (h : Low w) : ((SX.S w).cps.all (· < 0x110000)) = true := by
  rw [← Array.all_toList, List.all_eq_true]
  intro c hc
  exact decide_eq_true (by have z := h c hc; omega)
theorem kd_lay (k : Fin 3) : ((kd k).cps.all (· < 0x110000)) = true := by
  revert k
  decide +kernel
theorem ok_lay {ws hs : List (List Nat)} (hw : ∀ w ∈ ws, Low w) (hh : ∀ c ∈ hs, Low c) : ∀ {n : Nat} {t : Fm}, okF ws hs n t → PyData.canLay0 t.dat = true ∧ PyData.depth t.dat ≤ n
  | 0, _, h => h.elim
  | n + 1, .fls, _ => ⟨by decide +kernel, by show max 0 0 + 1 ≤ n + 1; omega⟩
  | n + 1, .atom w, h => by
    refine ⟨?_, by show max 0 (max 0 0) + 1 ≤ n + 1; omega⟩
    show (PyData.canLay0 (.str "atom") && (PyData.canLay0 (.str (SX.S w)) && true)) = true
    rw [show PyData.canLay0 (.str (SX.S w)) = true from low_lay (hw w h)]
    decide +kernel
  | n + 1, .hole w, h => by
    refine ⟨?_, by show max 0 (max 0 0) + 1 ≤ n + 1; omega⟩
    show (PyData.canLay0 (.str "hole") && (PyData.canLay0 (.str (SX.S w)) && true)) = true
    rw [show PyData.canLay0 (.str (SX.S w)) = true from low_lay (hh w h)]
    decide +kernel
  | n + 1, .bin k a b, h => by
    obtain ⟨a1, a2⟩ := ok_lay hw hh h.1
    obtain ⟨b1, b2⟩ := ok_lay hw hh h.2
    refine ⟨?_, ?_⟩
    · show (PyData.canLay0 (.str (kd k)) && (PyData.canLay0 a.dat && (PyData.canLay0 b.dat && true))) = true
      rw [a1, b1, show PyData.canLay0 (.str (kd k)) = true from kd_lay k]
      rfl
    · show max 0 (max (PyData.depth a.dat) (max (PyData.depth b.dat) 0)) + 1 ≤ n + 1
      omega
theorem ok_shaped {ws hs : List (List Nat)} (hw : ∀ w ∈ ws, Low w) (hh : ∀ c ∈ hs, Low c) {n : Nat} {t : Fm} (h : okF ws hs n t) (hn : n ≤ 64) : SeqAt.shaped t.dat = true := by
  obtain ⟨h1, h2⟩ := ok_lay hw hh h
  unfold SeqAt.shaped
  rw [h1, decide_eq_true (by omega)]
  rfl
theorem oka_str {n : Nat} {x : Str} : oka (n + 1) (.str x) = true := rfl
theorem ok_oka {ws hs : List (List Nat)} : ∀ {n : Nat} {t : Fm}, okF ws hs n t → oka (n + 1) t.dat = true
  | 0, _, h => h.elim
  | n + 1, .fls, _ => rfl
  | n + 1, .atom w, _ => rfl
  | n + 1, .hole w, _ => rfl
  | n + 1, .bin k a b, h => by
    have a1 := ok_oka h.1
    have b1 := ok_oka h.2
    show (decide (3 ≤ 1000) && (oka (n + 1) (.str (kd k)) && (oka (n + 1) a.dat && (oka (n + 1) b.dat && true)))) = true
    rw [a1, b1]
    rfl
end Ag

namespace Ag
open PySem PySem.Spec PyProof.Rows L2
/-! ### tables of holes -/
abbrev Tab := List (List Nat × Fm)
def tg : Tab → List Nat → Option Fm
  | [], _ => none
  | e :: r, c => if e.1 = c then some e.2 else tg r c
theorem tg_snoc (m : Tab) (c d : List Nat) (t : Fm) : tg (m ++ [(c, t)]) d = match tg m d with | some g => some g | none => if c = d then some t else none := by
  induction m with
  | nil => rfl
  | cons e r ih =>
    show (if e.1 = d then some e.2 else tg (r ++ [(c, t)]) d) = _
    rw [ih]
    show _ = match (if e.1 = d then some e.2 else tg r d) with | some g => some g | none => if c = d then some t else none
    by_cases h : e.1 = d
    · rw [if_pos h, if_pos h]
    · rw [if_neg h, if_neg h]
theorem tg_mem {m : Tab} {c : List Nat} {t : Fm} (h : tg m c = some t) : (c, t) ∈ m := by
  induction m with
  | nil => cases h
  | cons e r ih =>
    have h' : (if e.1 = c then some e.2 else tg r c) = some t := h
    by_cases he : e.1 = c
    · rw [if_pos he] at h'
      cases h'
      subst he
      exact List.mem_cons_self
    · rw [if_neg he] at h'
      exact List.mem_cons_of_mem _ (ih h')
theorem tg_none {m : Tab} {c : List Nat} (h : tg m c = none) : ∀ t, (c, t) ∉ m := by
  induction m with
  | nil => intro t z; cases z
  | cons e r ih =>
    have h' : (if e.1 = c then some e.2 else tg r c) = none := h
    by_cases he : e.1 = c
    · rw [if_pos he] at h'
      cases h'
    · rw [if_neg he] at h'
      intro t z
      rcases List.mem_cons.mp z with z | z
      · exact he (by rw [← z])
      · exact ih h' t z
/-- no key twice -/
def Fn (m : Tab) : Prop := (m.map (·.1)).Nodup
theorem Fn.one {m : Tab} (h : Fn m) {c : List Nat} {s t : Fm} (h1 : (c, s) ∈ m) (h2 : (c, t) ∈ m) : s = t := by
  induction m with
  | nil => cases h1
  | cons e r ih =>
    unfold Fn at h
    rw [List.map_cons, List.nodup_cons] at h
    rcases List.mem_cons.mp h1 with a | a <;> rcases List.mem_cons.mp h2 with b | b
    · rw [← b] at a
      exact (Prod.mk.inj a).2
    · exact absurd (List.mem_map.mpr ⟨_, b, rfl⟩) (by rw [← a] at h; exact h.1)
    · exact absurd (List.mem_map.mpr ⟨_, a, rfl⟩) (by rw [← b] at h; exact h.1)
    · exact ih h.2 a b
theorem Fn.tg {m : Tab} (h : Fn m) {c : List Nat} {t : Fm} (h1 : (c, t) ∈ m) : tg m c = some t := by
  cases e : Ag.tg m c with
  | none => exact absurd h1 (tg_none e t)
  | some s => rw [h.one (tg_mem e) h1]
theorem Fn.snoc {m : Tab} (h : Fn m) {c : List Nat} {t : Fm} (h1 : Ag.tg m c = none) : Fn (m ++ [(c, t)]) := by
  unfold Fn
  rw [List.map_append]
  refine nd_snoc h fun z => ?_
  obtain ⟨e, he, rfl⟩ := List.mem_map.mp z
  exact tg_none h1 e.2 he
theorem Fn.nodup {m : Tab} (h : Fn m) : m.Nodup := by
  induction m with
  | nil => exact List.nodup_nil
  | cons e r ih =>
    unfold Fn at h
    rw [List.map_cons, List.nodup_cons] at h
    exact List.nodup_cons.mpr ⟨fun z => h.1 (List.mem_map.mpr ⟨_, z, rfl⟩), ih h.2⟩
theorem Fn.perm {m n : Tab} (h : Fn m) (g : Fn n) (e : ∀ p, p ∈ m ↔ p ∈ n) : m.Perm n := by
  have nm : m.Nodup := h.nodup
  have nn : n.Nodup := g.nodup
  exact (List.perm_ext_iff_of_nodup nm nn).mpr e
/-! ### what a shape asks of its holes -/
def Cn : Fm → Fm → Tab
  | .hole c, f => [(c, f)]
  | .bin _ a b, .bin _ c d => Cn a c ++ Cn b d
  | _, _ => []
def Sm : Fm → Fm → Prop
  | .hole _, _ => True
  | .bin k a b, .bin j c d => k = j ∧ Sm a c ∧ Sm b d
  | .bin _ _ _, _ => False
  | s, f => s = f
/-- the law's own walk -/
def mt : Fm → Fm → Tab → Option Tab
  | .hole c, f, m => match tg m c with
    | some g => if g = f then some m else none
    | none => some (m ++ [(c, f)])
  | .bin k a b, .bin j c d, m => if k = j then match mt a c m with
      | none => none
      | some m' => mt b d m'
    else none
  | .bin _ _ _, _, _ => none
  | .fls, f, m => if Fm.fls = f then some m else none
  | .atom w, f, m => if Fm.atom w = f then some m else none
theorem mt_some : ∀ {s f : Fm} {m m' : Tab}, mt s f m = some m' → Fn m → Fn m' ∧ Sm s f ∧ ∀ p, p ∈ m' ↔ p ∈ m ∨ p ∈ Cn s f
  | .hole c, f, m, m', h, n => by
    simp only [mt] at h
    cases e : tg m c with
    | some g =>
      rw [e] at h
      try dsimp only at h
      by_cases hg : g = f
      · rw [if_pos hg] at h
        cases h
        subst hg
        refine ⟨n, trivial, fun p => ⟨.inl, fun z => ?_⟩⟩
        rcases z with z | z
        · exact z
        · rw [show p = (c, g) from List.mem_singleton.mp z]
          exact tg_mem e
      · rw [if_neg hg] at h
        cases h
    | none =>
      rw [e] at h
      try dsimp only at h
      cases h
      exact ⟨n.snoc e, trivial, fun p => List.mem_append⟩
  | .bin k a b, .bin j c d, m, m', h, n => by
    simp only [mt] at h
    by_cases hk : k = j
    · rw [if_pos hk] at h
      cases e : mt a c m with
      | none => rw [e] at h; cases h
      | some m1 =>
        rw [e] at h
        try dsimp only at h
        obtain ⟨n1, s1, h1⟩ := mt_some e n
        obtain ⟨n2, s2, h2⟩ := mt_some h n1
        refine ⟨n2, ⟨hk, s1, s2⟩, fun p => ?_⟩
        rw [h2, h1]
        show _ ↔ p ∈ m ∨ p ∈ Cn a c ++ Cn b d
        rw [List.mem_append, or_assoc]
    · rw [if_neg hk] at h
      cases h
  | .bin _ _ _, .fls, m, m', h, n => by cases h
  | .bin _ _ _, .atom _, m, m', h, n => by cases h
  | .bin _ _ _, .hole _, m, m', h, n => by cases h
  | .fls, f, m, m', h, n => by
    simp only [mt] at h
    by_cases e : Fm.fls = f
    · rw [if_pos e] at h
      cases h
      subst e
      exact ⟨n, rfl, fun p => ⟨.inl, fun z => z.elim id fun y => (by cases y)⟩⟩
    · rw [if_neg e] at h
      cases h
  | .atom w, f, m, m', h, n => by
    simp only [mt] at h
    by_cases e : Fm.atom w = f
    · rw [if_pos e] at h
      cases h
      subst e
      exact ⟨n, rfl, fun p => ⟨.inl, fun z => z.elim id fun y => (by cases y)⟩⟩
    · rw [if_neg e] at h
      cases h
theorem mt_none : ∀ {s f : Fm} {m : Tab}, mt s f m = none → Fn m → ∀ M : Tab, Fn M → (∀ p ∈ m, p ∈ M) → (∀ p ∈ Cn s f, p ∈ M) → Sm s f → False
  | .hole c, f, m, h, n, M, nM, hm, hc, _ => by
    simp only [mt] at h
    cases e : tg m c with
    | some g =>
      rw [e] at h
      try dsimp only at h
      by_cases hg : g = f
      · rw [if_pos hg] at h
        cases h
      · exact hg (nM.one (hm _ (tg_mem e)) (hc _ (List.mem_singleton.mpr rfl)))
    | none =>
      rw [e] at h
      try dsimp only at h
      cases h
  | .bin k a b, .bin j c d, m, h, n, M, nM, hm, hc, hs => by
    simp only [mt] at h
    rw [if_pos hs.1] at h
    cases e : mt a c m with
    | none => exact mt_none e n M nM hm (fun p hp => hc p (List.mem_append.mpr (.inl hp))) hs.2.1
    | some m1 =>
      rw [e] at h
      try dsimp only at h
      obtain ⟨n1, _, h1⟩ := mt_some e n
      refine mt_none h n1 M nM (fun p hp => ?_) (fun p hp => hc p (List.mem_append.mpr (.inr hp))) hs.2.2
      rcases (h1 p).mp hp with z | z
      · exact hm p z
      · exact hc p (List.mem_append.mpr (.inl z))
  | .bin _ _ _, .fls, m, _, _, M, _, _, _, hs => hs.elim
  | .bin _ _ _, .atom _, m, _, _, M, _, _, _, hs => hs.elim
  | .bin _ _ _, .hole _, m, _, _, M, _, _, _, hs => hs.elim
  | .fls, f, m, h, _, M, _, _, _, hs => by
    simp only [mt] at h
    rw [if_pos (show Fm.fls = f from hs)] at h
    cases h
  | .atom w, f, m, h, _, M, _, _, _, hs => by
    simp only [mt] at h
    rw [if_pos (show Fm.atom w = f from hs)] at h
    cases h
/-! ### the program's walk: a stack, its top first -/
def sz : Fm → Nat
  | .bin _ a b => 1 + sz a + sz b
  | _ => 1
def tot : List (Fm × Fm) → Nat
  | [] => 0
  | e :: r => sz e.1 + tot r
def ho : Nat → List (Fm × Fm) → Tab → Option Tab
  | _, [], m => some m
  | 0, _ :: _, _ => none
  | n + 1, (.hole c, f) :: r, m => match tg m c with
    | some g => if g = f then ho n r m else none
    | none => ho n r (m ++ [(c, f)])
  | n + 1, (.bin k a b, .bin j c d) :: r, m => if k = j then ho n ((b, d) :: (a, c) :: r) m else none
  | _ + 1, (.bin _ _ _, _) :: _, _ => none
  | n + 1, (.fls, f) :: r, m => if Fm.fls = f then ho n r m else none
  | n + 1, (.atom w, f) :: r, m => if Fm.atom w = f then ho n r m else none
def CnS : List (Fm × Fm) → Tab
  | [] => []
  | e :: r => Cn e.1 e.2 ++ CnS r
def SmS (l : List (Fm × Fm)) : Prop := ∀ e ∈ l, Sm e.1 e.2
theorem ho_some : ∀ {n : Nat} {l : List (Fm × Fm)} {m m' : Tab}, ho n l m = some m' → Fn m → Fn m' ∧ SmS l ∧ ∀ p, p ∈ m' ↔ p ∈ m ∨ p ∈ CnS l
  | n, [], m, m', h, nm => by
    have e : m' = m := by cases n <;> exact (Option.some.inj h).symm
    subst e
    exact ⟨nm, fun e h => (by cases h), fun p => ⟨.inl, fun z => z.elim id fun y => (by cases y)⟩⟩
  | 0, _ :: _, m, m', h, nm => by cases h
  | n + 1, (.hole c, f) :: r, m, m', h, nm => by
    simp only [ho] at h
    cases e : tg m c with
    | some g =>
      rw [e] at h
      try dsimp only at h
      by_cases hg : g = f
      · rw [if_pos hg] at h
        subst hg
        obtain ⟨n1, s1, h1⟩ := ho_some h nm
        refine ⟨n1, fun e he => ?_, fun p => ?_⟩
        · rcases List.mem_cons.mp he with rfl | he
          · trivial
          · exact s1 e he
        · rw [h1]
          show _ ↔ p ∈ m ∨ p ∈ [(c, g)] ++ CnS r
          rw [List.mem_append, List.mem_singleton]
          constructor
          · rintro (z | z)
            · exact .inl z
            · exact .inr (.inr z)
          · rintro (z | rfl | z)
            · exact .inl z
            · exact .inl (tg_mem e)
            · exact .inr z
      · rw [if_neg hg] at h
        cases h
    | none =>
      rw [e] at h
      try dsimp only at h
      obtain ⟨n1, s1, h1⟩ := ho_some h (nm.snoc e)
      refine ⟨n1, fun e he => ?_, fun p => ?_⟩
      · rcases List.mem_cons.mp he with rfl | he
        · trivial
        · exact s1 e he
      · rw [h1, List.mem_append]
        show _ ↔ p ∈ m ∨ p ∈ [(c, f)] ++ CnS r
        rw [List.mem_append, or_assoc]
  | n + 1, (.bin k a b, .bin j c d) :: r, m, m', h, nm => by
    simp only [ho] at h
    by_cases hk : k = j
    · rw [if_pos hk] at h
      obtain ⟨n1, s1, h1⟩ := ho_some h nm
      refine ⟨n1, fun e he => ?_, fun p => ?_⟩
      · rcases List.mem_cons.mp he with rfl | he
        · exact ⟨hk, s1 (a, c) (by simp), s1 (b, d) (by simp)⟩
        · exact s1 e (by simp [he])
      · rw [h1]
        show p ∈ m ∨ p ∈ Cn b d ++ (Cn a c ++ CnS r) ↔ p ∈ m ∨ p ∈ (Cn a c ++ Cn b d) ++ CnS r
        simp only [List.mem_append]
        constructor
        · rintro (z | z | z | z)
          · exact .inl z
          · exact .inr (.inl (.inr z))
          · exact .inr (.inl (.inl z))
          · exact .inr (.inr z)
        · rintro (z | (z | z) | z)
          · exact .inl z
          · exact .inr (.inr (.inl z))
          · exact .inr (.inl z)
          · exact .inr (.inr (.inr z))
    · rw [if_neg hk] at h
      cases h
  | _ + 1, (.bin _ _ _, .fls) :: _, m, m', h, nm => by cases h
  | _ + 1, (.bin _ _ _, .atom _) :: _, m, m', h, nm => by cases h
  | _ + 1, (.bin _ _ _, .hole _) :: _, m, m', h, nm => by cases h
  | n + 1, (.fls, f) :: r, m, m', h, nm => by
    simp only [ho] at h
    by_cases e : Fm.fls = f
    · rw [if_pos e] at h
      subst e
      obtain ⟨n1, s1, h1⟩ := ho_some h nm
      refine ⟨n1, fun e he => ?_, h1⟩
      rcases List.mem_cons.mp he with rfl | he
      · rfl
      · exact s1 e he
    · rw [if_neg e] at h
      cases h
  | n + 1, (.atom w, f) :: r, m, m', h, nm => by
    simp only [ho] at h
    by_cases e : Fm.atom w = f
    · rw [if_pos e] at h
      subst e
      obtain ⟨n1, s1, h1⟩ := ho_some h nm
      refine ⟨n1, fun e he => ?_, h1⟩
      rcases List.mem_cons.mp he with rfl | he
      · rfl
      · exact s1 e he
    · rw [if_neg e] at h
      cases h
theorem ho_none : ∀ {n : Nat} {l : List (Fm × Fm)} {m : Tab}, ho n l m = none → tot l ≤ n → Fn m → ∀ M : Tab, Fn M → (∀ p ∈ m, p ∈ M) → (∀ p ∈ CnS l, p ∈ M) → SmS l → False
  | n, [], m, h, _, _, _, _, _, _, _ => by cases n <;> cases h
  | 0, e :: r, m, _, ht, _, _, _, _, _, _ => by
    have : 1 ≤ sz e.1 := by cases e.1 <;> simp only [sz] <;> omega
    simp only [tot] at ht
    omega
  | n + 1, (.hole c, f) :: r, m, h, ht, nm, M, nM, hm, hc, hs => by
    have ht' : tot r ≤ n := by simp only [tot, sz] at ht; omega
    have hs' : SmS r := fun e he => hs e (List.mem_cons_of_mem _ he)
    simp only [ho] at h
    cases e : tg m c with
    | some g =>
      rw [e] at h
      try dsimp only at h
      by_cases hg : g = f
      · rw [if_pos hg] at h
        exact ho_none h ht' nm M nM hm (fun p hp => hc p (List.mem_append.mpr (.inr hp))) hs'
      · exact hg (nM.one (hm _ (tg_mem e)) (hc _ (List.mem_append.mpr (.inl (List.mem_singleton.mpr rfl)))))
    | none =>
      rw [e] at h
      try dsimp only at h
      refine ho_none h ht' (nm.snoc e) M nM (fun p hp => ?_) (fun p hp => hc p (List.mem_append.mpr (.inr hp))) hs'
      rcases List.mem_append.mp hp with z | z
      · exact hm p z
      · exact hc p (List.mem_append.mpr (.inl z))
  | n + 1, (.bin k a b, .bin j c d) :: r, m, h, ht, nm, M, nM, hm, hc, hs => by
    have h0 := hs (.bin k a b, .bin j c d) (by simp)
    simp only [ho] at h
    rw [if_pos h0.1] at h
    refine ho_none h ?_ nm M nM hm (fun p hp => ?_) fun e he => ?_
    · simp only [tot, sz] at ht ⊢
      omega
    · have hp' : p ∈ Cn b d ++ (Cn a c ++ CnS r) := hp
      refine hc p (show p ∈ (Cn a c ++ Cn b d) ++ CnS r from ?_)
      simp only [List.mem_append] at hp' ⊢
      rcases hp' with z | z | z
      · exact .inl (.inr z)
      · exact .inl (.inl z)
      · exact .inr z
    · rcases List.mem_cons.mp he with rfl | he
      · exact h0.2.2
      rcases List.mem_cons.mp he with rfl | he
      · exact h0.2.1
      · exact hs e (List.mem_cons_of_mem _ he)
  | _ + 1, (.bin k a b, .fls) :: _, m, _, _, _, _, _, _, _, hs => (hs _ List.mem_cons_self).elim
  | _ + 1, (.bin k a b, .atom w) :: _, m, _, _, _, _, _, _, _, hs => (hs _ List.mem_cons_self).elim
  | _ + 1, (.bin k a b, .hole w) :: _, m, _, _, _, _, _, _, _, hs => (hs _ List.mem_cons_self).elim
  | n + 1, (.fls, f) :: r, m, h, ht, nm, M, nM, hm, hc, hs => by
    have ht' : tot r ≤ n := by simp only [tot, sz] at ht; omega
    simp only [ho] at h
    rw [if_pos (show Fm.fls = f from hs _ List.mem_cons_self)] at h
    exact ho_none h ht' nm M nM hm (fun p hp => hc p (List.mem_append.mpr (.inr hp))) fun e he => hs e (List.mem_cons_of_mem _ he)
  | n + 1, (.atom w, f) :: r, m, h, ht, nm, M, nM, hm, hc, hs => by
    have ht' : tot r ≤ n := by simp only [tot, sz] at ht; omega
    simp only [ho] at h
    rw [if_pos (show Fm.atom w = f from hs _ List.mem_cons_self)] at h
    exact ho_none h ht' nm M nM hm (fun p hp => hc p (List.mem_append.mpr (.inr hp))) fun e he => hs e (List.mem_cons_of_mem _ he)
/-- what holes_of answers -/
def hof (s f : Fm) : Option Tab := ho (sz s) [(s, f)] []
theorem hof_some {s f : Fm} {m : Tab} (h : hof s f = some m) : Fn m ∧ Sm s f ∧ ∀ p, p ∈ m ↔ p ∈ Cn s f := by
  obtain ⟨h1, h2, h3⟩ := ho_some h (show Fn [] from List.nodup_nil)
  refine ⟨h1, h2 (s, f) (by simp), fun p => ?_⟩
  rw [h3]
  show p ∈ [] ∨ p ∈ Cn s f ++ [] ↔ _
  simp
theorem hof_none {s f : Fm} (h : hof s f = none) {M : Tab} (nM : Fn M) (hc : ∀ p ∈ Cn s f, p ∈ M) (hs : Sm s f) : False := by
  refine ho_none h (by simp [tot]) (show Fn [] from List.nodup_nil) M nM (fun p hp => (by cases hp)) (fun p hp => ?_) (fun e he => ?_)
  · have hp' : p ∈ Cn s f ++ [] := hp
    rw [List.append_nil] at hp'
    exact hc p hp'
  · rw [List.mem_singleton.mp he]
    exact hs
/-- the two walks agree -/
theorem walks {s f : Fm} : (hof s f = none ∧ mt s f [] = none) ∨ ∃ m1 m2, hof s f = some m1 ∧ mt s f [] = some m2 ∧ m1.Perm m2 ∧ Fn m1 ∧ Fn m2 ∧ Sm s f ∧ ∀ p, p ∈ m2 ↔ p ∈ Cn s f := by
  have n0 : Fn [] := List.nodup_nil
  cases e1 : hof s f with
  | none =>
    cases e2 : mt s f [] with
    | none => exact .inl ⟨rfl, rfl⟩
    | some m2 =>
      obtain ⟨h1, h2, h3⟩ := mt_some e2 n0
      exact (hof_none e1 h1 (fun p hp => (h3 p).mpr (.inr hp)) h2).elim
  | some m1 =>
    obtain ⟨g1, g2, g3⟩ := hof_some e1
    cases e2 : mt s f [] with
    | none => exact (mt_none e2 n0 m1 g1 (fun p hp => (by cases hp)) (fun p hp => (g3 p).mpr hp) g2).elim
    | some m2 =>
      obtain ⟨h1, h2, h3⟩ := mt_some e2 n0
      have h3' : ∀ p, p ∈ m2 ↔ p ∈ Cn s f := fun p => by rw [h3]; simp
      exact .inr ⟨m1, m2, rfl, rfl, g1.perm h1 fun p => by rw [g3, h3'], g1, h1, h2, h3'⟩
/-! ### the holes filled -/
def pt (m : Tab) : Fm → Fm
  | .hole c => (tg m c).getD (.hole c)
  | .bin k a b => .bin k (pt m a) (pt m b)
  | t => t
theorem pt_back {M : Tab} (nM : Fn M) : ∀ {s f : Fm}, (∀ p ∈ Cn s f, p ∈ M) → Sm s f → pt M s = f
  | .hole c, f, h, _ => by
    show (tg M c).getD _ = f
    rw [nM.tg (h _ (List.mem_singleton.mpr rfl))]
    rfl
  | .bin k a b, .bin j c d, h, hs => by
    show Fm.bin k (pt M a) (pt M b) = _
    rw [pt_back nM (fun p hp => h p (List.mem_append.mpr (.inl hp))) hs.2.1, pt_back nM (fun p hp => h p (List.mem_append.mpr (.inr hp))) hs.2.2, hs.1]
  | .bin _ _ _, .fls, _, hs => hs.elim
  | .bin _ _ _, .atom _, _, hs => hs.elim
  | .bin _ _ _, .hole _, _, hs => hs.elim
  | .fls, f, _, hs => hs
  | .atom w, f, _, hs => hs
theorem pt_ok {ws hs : List (List Nat)} {M : Tab} {k : Nat} (hM : ∀ c ∈ hs, ∃ t, tg M c = some t ∧ okF ws [] k t) : ∀ {n : Nat} {s : Fm}, okF ws hs n s → okF ws [] (n + k) (pt M s)
  | 0, _, h => h.elim
  | n + 1, .fls, _ => by rw [Nat.add_right_comm]; exact trivial
  | n + 1, .atom w, h => by rw [Nat.add_right_comm]; exact h
  | n + 1, .hole c, h => by
    obtain ⟨t, h1, h2⟩ := hM c h
    show okF ws [] _ ((tg M c).getD _)
    rw [h1]
    exact h2.le (by omega)
  | n + 1, .bin j a b, h => by
    rw [Nat.add_right_comm]
    exact ⟨pt_ok hM h.1, pt_ok hM h.2⟩
theorem cn_plain {ws : List (List Nat)} : ∀ {n : Nat} {t : Fm}, okF ws [] n t → Cn t t = [] ∧ Sm t t
  | 0, _, h => h.elim
  | _ + 1, .fls, _ => ⟨rfl, rfl⟩
  | _ + 1, .atom _, _ => ⟨rfl, rfl⟩
  | _ + 1, .hole _, h => by cases h
  | _ + 1, .bin _ _ _, h => by
    obtain ⟨a1, a2⟩ := cn_plain h.1
    obtain ⟨b1, b2⟩ := cn_plain h.2
    exact ⟨by show Cn _ _ ++ Cn _ _ = []; rw [a1, b1]; rfl, rfl, a2, b2⟩
theorem hof_plain {ws : List (List Nat)} {n : Nat} {t : Fm} (h : okF ws [] n t) : hof t t = some [] := by
  obtain ⟨h1, h2⟩ := cn_plain h
  cases e : hof t t with
  | none => exact (hof_none e (M := []) List.nodup_nil (fun p hp => by rw [h1] at hp; exact hp) h2).elim
  | some m =>
    obtain ⟨_, _, g3⟩ := hof_some e
    cases m with
    | nil => rfl
    | cons p r =>
      have z := (g3 p).mp (by simp)
      rw [h1] at z
      cases z
theorem cn_ok {ws hs : List (List Nat)} : ∀ {n k : Nat} {s f : Fm}, okF ws hs n s → okF ws [] k f → ∀ p ∈ Cn s f, p.1 ∈ hs ∧ okF ws [] k p.2
  | 0, _, _, _, h, _, _, _ => h.elim
  | n + 1, k, .hole c, f, h, g, p, hp => by
    rw [List.mem_singleton.mp hp]
    exact ⟨h, g⟩
  | n + 1, 0, .bin _ _ _, _, _, g, _, _ => g.elim
  | n + 1, k + 1, .bin j a b, .bin i c d, h, g, p, hp => by
    rcases List.mem_append.mp (show p ∈ Cn a c ++ Cn b d from hp) with z | z
    · have y := cn_ok h.1 g.1 p z
      exact ⟨y.1, y.2.up⟩
    · have y := cn_ok h.2 g.2 p z
      exact ⟨y.1, y.2.up⟩
  | n + 1, k + 1, .bin _ _ _, .fls, _, _, p, hp => by cases hp
  | n + 1, k + 1, .bin _ _ _, .atom _, _, _, p, hp => by cases hp
  | n + 1, k + 1, .bin _ _ _, .hole _, _, _, p, hp => by cases hp
  | n + 1, k, .fls, f, _, _, p, hp => by cases f <;> cases hp
  | n + 1, k, .atom _, f, _, _, p, hp => by cases f <;> cases hp
theorem nodup_le {α : Type} [DecidableEq α] : ∀ {l k : List α}, l.Nodup → (∀ x ∈ l, x ∈ k) → l.length ≤ k.length
  | [], _, _, _ => Nat.zero_le _
  | x :: r, k, h, hs => by
    have h' := List.nodup_cons.mp h
    have hx : x ∈ k := hs x (by simp)
    have z := nodup_le (k := k.erase x) h'.2 fun y hy => (List.mem_erase_of_ne (fun e => h'.1 (by rw [← e]; exact hy))).mpr (hs y (by simp [hy]))
    rw [List.length_erase_of_mem hx] at z
    have : 0 < k.length := List.length_pos_of_mem hx
    simp only [List.length_cons]
    omega
/-! ### tables in the heap -/
def TR (K : PySem.W.Frag) (H : Hp) (kv : Key × V) (e : List Nat × Fm) : Prop := kv.1 = Sum.inr (SX.S e.1) ∧ Fr K H kv.2 e.2
def TabAt (K : PySem.W.Frag) (H : Hp) (T : Addr) (m : Tab) : Prop := ∃ kvs, H T = some (.dK kvs) ∧ Paired (TR K H) kvs m
def TOk (ws hs : List (List Nat)) (N : Nat) (m : Tab) : Prop := Fn m ∧ ∀ p ∈ m, p.1 ∈ hs ∧ okF ws [] N p.2
theorem key_S (a b : List Nat) : (Sum.inr (SX.S a) : Key) = Sum.inr (SX.S b) ↔ a = b := ⟨fun h => SX.S_inj (Sum.inr.inj h), fun h => by rw [h]⟩
theorem tab_some {K : PySem.W.Frag} {H : Hp} : ∀ {kvs : List (Key × V)} {m : Tab}, Paired (TR K H) kvs m → ∀ {c : List Nat} {t : Fm}, tg m c = some t → ∃ v, valV kvs (Sum.inr (SX.S c)) = some v ∧ Fr K H v t
  | _, _, .nil, c, t, h => by cases h
  | _, _, .cons (a := kv) (b := e) r rs, c, t, h => by
    have h' : (if e.1 = c then some e.2 else tg _ c) = some t := h
    by_cases he : e.1 = c
    · rw [if_pos he] at h'
      cases h'
      exact ⟨kv.2, valV_pos (by rw [r.1, he]), r.2⟩
    · rw [if_neg he] at h'
      obtain ⟨v, h1, h2⟩ := tab_some rs h'
      exact ⟨v, by rw [valV_neg (fun z => he ((key_S _ _).mp (r.1.symm.trans z)))]; exact h1, h2⟩
theorem tab_none {K : PySem.W.Frag} {H : Hp} : ∀ {kvs : List (Key × V)} {m : Tab}, Paired (TR K H) kvs m → ∀ {c : List Nat}, tg m c = none → valV kvs (Sum.inr (SX.S c)) = none
  | _, _, .nil, c, _ => rfl
  | _, _, .cons (a := kv) (b := e) r rs, c, h => by
    have h' : (if e.1 = c then some e.2 else tg _ c) = none := h
    by_cases he : e.1 = c
    · rw [if_pos he] at h'
      cases h'
    · rw [if_neg he] at h'
      rw [valV_neg (fun z => he ((key_S _ _).mp (r.1.symm.trans z)))]
      exact tab_none rs h'
theorem tab_same {K : PySem.W.Frag} {H H' : Hp} (s : Same H H') {kvs : List (Key × V)} {m : Tab} (h : Paired (TR K H) kvs m) : Paired (TR K H') kvs m := paired_imp (fun _ _ z => ⟨z.1, z.2.same s⟩) h
theorem TabAt.same {K : PySem.W.Frag} {H H' : Hp} (s : Same H H') {T : Addr} {m : Tab} (h : TabAt K H T m) : TabAt K H' T m := by
  obtain ⟨kvs, h1, h2⟩ := h
  exact ⟨kvs, s _ _ h1, tab_same s h2⟩
theorem paired_snoc {α β : Type} {R : α → β → Prop} : ∀ {l : List α} {m : List β} {a : α} {b : β}, Paired R l m → R a b → Paired R (l ++ [a]) (m ++ [b])
  | _, _, _, _, .nil, h => .cons h .nil
  | _, _, _, _, .cons r t, h => .cons r (paired_snoc t h)
theorem mt_tok {ws hs : List (List Nat)} {n N : Nat} {s f : Fm} {m m' : Tab} (h : mt s f m = some m') (ok : TOk ws hs N m) (hs1 : okF ws hs n s) (hf : okF ws [] N f) : TOk ws hs N m' := by
  obtain ⟨h1, h2, h3⟩ := mt_some h ok.1
  refine ⟨h1, fun p hp => ?_⟩
  rcases (h3 p).mp hp with z | z
  · exact ok.2 p z
  · exact cn_ok hs1 hf p z
/-- the first word of a formula, and the tuple that it is -/
def hd0 : Fm → Str
  | .fls => "false"
  | .atom _ => "atom"
  | .hole _ => "hole"
  | .bin k _ _ => kd k
theorem fr_head {K : PySem.W.Frag} {H : Hp} {v : V} {t : Fm} (h : Fr K H v t) : ∃ p r, v = .ref p ∧ SqT K H p (.str (hd0 t) :: r) := by
  cases t with
  | fls => obtain ⟨p, e, q⟩ := fr_fls h; exact ⟨p, _, e, q⟩
  | atom u => obtain ⟨p, e, q⟩ := fr_atom h; exact ⟨p, _, e, q⟩
  | hole u => obtain ⟨p, e, q⟩ := fr_hole h; exact ⟨p, _, e, q⟩
  | bin k a b => obtain ⟨p, x, y, e, q, _⟩ := fr_bin h; exact ⟨p, _, e, q⟩
theorem in_kd (k : Fin 3) : (!inV (.str (kd k)) [.str "then", .str "and", .str "or"]) = false := by
  revert k
  decide +kernel
theorem at_head {x : V} {r : List V} : atI (x :: r) 0 = some x := at_any (j := 0) rfl rfl
theorem kd_in (k : Fin 3) : inV (.str (kd k)) [.str "then", .str "and", .str "or"] = true := by
  revert k
  decide +kernel
/-! ### the stack of holes_of: its list, the top last -/
def PairAt (K : PySem.W.Frag) (H : Hp) (v : V) (e : Fm × Fm) : Prop := ∃ p x y, v = .ref p ∧ SqT K H p [x, y] ∧ Fr K H x e.1 ∧ Fr K H y e.2
theorem PairAt.same {K : PySem.W.Frag} {H H' : Hp} (s : Same H H') {v : V} {e : Fm × Fm} (h : PairAt K H v e) : PairAt K H' v e := by
  obtain ⟨p, x, y, h1, h2, h3, h4⟩ := h
  exact ⟨p, x, y, h1, sameT s h2, h3.same s, h4.same s⟩
inductive Stk (K : PySem.W.Frag) (H : Hp) : List V → List (Fm × Fm) → Prop
  | nil : Stk K H [] []
  | push {vs : List V} {v : V} {r : List (Fm × Fm)} {e : Fm × Fm} : Stk K H vs r → PairAt K H v e → Stk K H (vs ++ [v]) (e :: r)
theorem Stk.len {K : PySem.W.Frag} {H : Hp} {vs : List V} {l : List (Fm × Fm)} (h : Stk K H vs l) : vs.length = l.length := by
  induction h with
  | nil => rfl
  | push _ _ ih => rw [List.length_append, ih]; rfl
theorem tot_len : ∀ l : List (Fm × Fm), l.length ≤ tot l
  | [] => Nat.le_refl _
  | e :: r => by
    have z := tot_len r
    have : 1 ≤ sz e.1 := by cases e.1 <;> simp only [sz] <;> omega
    simp only [tot, List.length_cons]
    omega
structure Setting (ws hs : List (List Nat)) (N : Nat) : Prop where
  lw : ∀ w ∈ ws, Low w
  lh : ∀ c ∈ hs, Low c
  n : N ≤ 60
  len : hs.length ≤ 900
/-! ### tuples stay, whatever list or dict is changed -/
def Tp (H H' : Hp) : Prop := ∀ p xs, Rd H p (.tup xs) → Rd H' p (.tup xs)
theorem Tp.of {H H' : Hp} (s : Same H H') : Tp H H' := fun p xs h => RdLe.of s p _ h
theorem Tp.trans {H H1 H2 : Hp} (a : Tp H H1) (b : Tp H1 H2) : Tp H H2 := fun p xs h => b p xs (a p xs h)
theorem Tp.upd {H : Hp} {a : Addr} {u o : HO} (h : H a = some u) (mu : Mut (some u)) : Tp H (upd H a o) := fun p xs q => by
  have np : p ≠ a := by
    rintro rfl
    rcases q with q | ⟨o', q⟩ <;> (rw [h] at q; cases q; exact mu)
  rcases q with q | ⟨o', q⟩
  · exact .inl (by rw [upd_ne np]; exact q)
  · exact .inr ⟨o', by rw [upd_ne np]; exact q⟩
section
variable {K : PySem.W.Frag} {H H' : Hp}
theorem Tp.seq (s : Tp H H') {a : Addr} {xs : List V} (h : SqT K H a xs) : SqT K H' a xs := h.imp (s _ _) id
theorem Fr.tp (s : Tp H H') : ∀ {t : Fm} {v : V}, Fr K H v t → Fr K H' v t
  | .fls, _, h => by
    obtain ⟨p, rfl, q⟩ := fr_fls h
    exact mk_fls (s.seq q)
  | .atom w, _, h => by
    obtain ⟨p, rfl, q⟩ := fr_atom h
    exact mk_atom (s.seq q)
  | .hole w, _, h => by
    obtain ⟨p, rfl, q⟩ := fr_hole h
    exact mk_hole (s.seq q)
  | .bin j a b, _, h => by
    obtain ⟨p, x, y, rfl, q, ha, hb⟩ := fr_bin h
    exact mk_bin (s.seq q) (Fr.tp s ha) (Fr.tp s hb)
theorem tab_tp (s : Tp H H') {kvs : List (Key × V)} {m : Tab} (h : Paired (TR K H) kvs m) : Paired (TR K H') kvs m := paired_imp (fun _ _ z => ⟨z.1, z.2.tp s⟩) h
theorem PairAt.tp (s : Tp H H') {v : V} {e : Fm × Fm} (h : PairAt K H v e) : PairAt K H' v e := by
  obtain ⟨p, x, y, h1, h2, h3, h4⟩ := h
  exact ⟨p, x, y, h1, s.seq h2, h3.tp s, h4.tp s⟩
theorem Stk.tp (s : Tp H H') {vs : List V} {l : List (Fm × Fm)} (h : Stk K H vs l) : Stk K H' vs l := by
  induction h with
  | nil => exact .nil
  | push _ hp ih => exact .push ih (hp.tp s)
end
theorem last_at (vs : List V) (v : V) : (vs ++ [v])[(vs ++ [v]).length - 1]? = some v := by simp
/-! ### a table as data -/
def ent (e : List Nat × Fm) : PyData × PyData := (.str (SX.S e.1), e.2.dat)
theorem paired_perm {α β : Type} {R : α → β → Prop} {m n : List β} (p : m.Perm n) : ∀ {l : List α}, Paired R l m → ∃ k, l.Perm k ∧ Paired R k n := by
  induction p with
  | nil => intro l h; exact ⟨l, .refl _, h⟩
  | cons x _ ih =>
    intro l h
    cases h with
    | cons r t =>
      obtain ⟨k, h1, h2⟩ := ih t
      exact ⟨_, h1.cons _, .cons r h2⟩
  | swap x y l' =>
    intro l h
    cases h with
    | cons r t =>
      cases t with
      | cons r2 t2 => exact ⟨_, .swap _ _ _, .cons r2 (.cons r t2)⟩
  | trans _ _ ih1 ih2 =>
    intro l h
    obtain ⟨k, h1, h2⟩ := ih1 h
    obtain ⟨k2, h3, h4⟩ := ih2 h2
    exact ⟨k2, h1.trans h3, h4⟩
theorem paired_map {α β γ : Type} {R : α → β → Prop} {S : α → γ → Prop} (g : β → γ) (f : ∀ a b, R a b → S a (g b)) : ∀ {l : List α} {m : List β}, Paired R l m → Paired S l (m.map g)
  | _, _, .nil => .nil
  | _, _, .cons r t => .cons (f _ _ r) (paired_map g f t)
theorem tab_keys {K : PySem.W.Frag} {H : Hp} : ∀ {kvs : List (Key × V)} {m : Tab}, Paired (TR K H) kvs m → kvs.map (·.1) = m.map fun e => Sum.inr (SX.S e.1)
  | _, _, .nil => rfl
  | _, _, .cons r t => by rw [List.map_cons, List.map_cons, tab_keys t, r.1]
theorem fn_keys {m : Tab} (h : Fn m) : (m.map fun e => (Sum.inr (SX.S e.1) : Key)).Nodup := by
  induction m with
  | nil => exact List.nodup_nil
  | cons e r ih =>
    unfold Fn at h
    rw [List.map_cons, List.nodup_cons] at h
    rw [List.map_cons, List.nodup_cons]
    refine ⟨fun z => ?_, ih h.2⟩
    obtain ⟨e', h1, h2⟩ := List.mem_map.mp z
    exact h.1 (List.mem_map.mpr ⟨e', h1, (key_S _ _).mp h2⟩)
theorem da_tab {K : PySem.W.Frag} {H : Hp} {T : Addr} {m1 m2 : Tab} (h : TabAt K H T m1) (p : m1.Perm m2) (n : Fn m1) : Da K H (.ref T) (.dict (m2.map ent)) := by
  obtain ⟨kvs, h1, h2⟩ := h
  obtain ⟨k, h3, h4⟩ := paired_perm p h2
  exact .dic h1 h3 (by rw [tab_keys h2]; exact fn_keys n) (paired_map ent (fun _ _ z => ⟨by rw [z.1]; rfl, z.2⟩) h4)
theorem oka_tab {ws hs : List (List Nat)} {N n : Nat} {m : Tab} (hw : ∀ c ∈ hs, Low c) (h : TOk ws hs N m) (hl : hs.length < 64) (hn : N + 1 ≤ n) (up : ∀ (t : Fm), okF ws [] N t → oka n t.dat = true) : oka (n + 1) (.dict (m.map ent)) = true := by
  simp only [oka, Bool.and_eq_true, decide_eq_true_eq, List.all_eq_true, List.length_map]
  refine ⟨?_, fun e he => ?_⟩
  · have z := nodup_le (k := hs) h.1 fun x hx => by
      obtain ⟨e, he, rfl⟩ := List.mem_map.mp hx
      exact (h.2 e he).1
    rw [List.length_map] at z
    omega
  · obtain ⟨p, hp, rfl⟩ := List.mem_map.mp he
    exact ⟨low_lay (hw _ (h.2 p hp).1), up _ (h.2 p hp).2⟩
theorem okF_oka {ws hs : List (List Nat)} {N n : Nat} {t : Fm} (h : okF ws hs N t) (hn : N ≤ n) : oka (n + 1) t.dat = true := ok_oka (h.le hn)
theorem sz_pow {ws hs : List (List Nat)} : ∀ {n : Nat} {t : Fm}, okF ws hs n t → sz t + 1 ≤ 2 ^ n
  | 0, _, h => h.elim
  | n + 1, .fls, _ => by have : 1 ≤ 2 ^ n := Nat.one_le_two_pow; simp only [sz, Nat.pow_succ]; omega
  | n + 1, .atom _, _ => by have : 1 ≤ 2 ^ n := Nat.one_le_two_pow; simp only [sz, Nat.pow_succ]; omega
  | n + 1, .hole _, _ => by have : 1 ≤ 2 ^ n := Nat.one_le_two_pow; simp only [sz, Nat.pow_succ]; omega
  | n + 1, .bin _ a b, h => by
    have h1 := sz_pow h.1
    have h2 := sz_pow h.2
    simp only [sz, Nat.pow_succ]
    omega
theorem sz_le {ws hs : List (List Nat)} {n : Nat} {t : Fm} (h : okF ws hs n t) (hn : n ≤ 9 := by decide) : sz t ≤ 900 := by
  have z := sz_pow (h.le hn)
  have : 2 ^ 9 = 512 := by decide
  omega
theorem vals_rev {zs : List V} {ws : List Value} (r : Vals zs ws) : Vals zs.reverse ws.reverse := by
  induction r with
  | nil => exact .nil
  | cons h _ ih =>
    rw [List.reverse_cons, List.reverse_cons]
    exact Vals.append ih (.cons h .nil)
end Ag

namespace Ag
open PySem PySem.Spec PyProof.Rows L2
def top (i : Nat) : Stmt := PySem.Challenge.pw_addedgrounds_k07_whole_holes_filled.main.body.getD i (.Pass ⟨0, 0, 0, 0⟩)
abbrev s_holes_of : Stmt := top 1
abbrev s_law_bag : Stmt := top 3
abbrev s_law_pull : Stmt := top 4
abbrev s_law_any : Stmt := top 5
abbrev s_law_like : Stmt := top 6
abbrev s_law_names : Stmt := top 7
abbrev s_law_form : Stmt := top 8
abbrev s_law_shape : Stmt := top 9
abbrev s_law_match : Stmt := top 10
abbrev s_law_put : Stmt := top 11
abbrev s_law : Stmt := top 12
end Ag
namespace Ag
open PySem PySem.Spec PyProof.Rows L2
section
variable {P : Program} {w : World} {K : PySem.W.Frag} {mg : Str → Option Value} {base : Heap}
/-! ### _law_bag -/
def spBag (K : PySem.W.Frag) : Sp := fun vs H Q _ => ∃ (a : Addr) (ns : List Int), vs = [.ref a] ∧ SqL K H a (ns.map V.int) ∧ ns.length ≤ 63 ∧
  ∀ (b l : Addr) (H' : Hp), H b = none → Same H H' → Bag H' b l → Q (.ref b) H'
theorem scBag : FnScope ["_law_script"] ["_law_script"] (defScope s_law_bag) := ⟨rfl, rfl, rfl, by decide +kernel, rfl, by decide +kernel, by decide +kernel⟩
theorem ok_bag {f : Addr} {fd : FuncData} (F : Fun K "_law_bag" "_law_bag" s_law_bag f fd) (ml : mg "list" = none) : FnOk P w K mg base CX0 1 f fd ["_law_script"] (spBag K) := by
  refine F.ok scBag (fun vs H Q E h => ?_) (fun cdv A outer s H vs Q E hr h => ?_)
  · obtain ⟨a, ns, rfl, _⟩ := h
    rfl
  obtain ⟨a, ns, rfl, hS, h63, q⟩ := h
  refine ⟨_, pss_one (ps_ret (pe_lst (pa_cons (pe_callTy call_list_of (by rfl) ml (by decide +kernel) (pa_cons (pe_slice sl_list (pv 0) po_none (po_some pe_int)) pa_nil))
    (pa_cons pe_int (pa_cons pe_int (pa_cons pe_int (pa_cons pe_int pa_nil))))))), ?_⟩
  refine ⟨_, rfl, _, rfl, a, _, rfl, hS, fun p np => ?_⟩
  have ec : cutV (ns.map V.int) none (some 63) = ns.map V.int := by
    unfold cutV
    have e1 : HT.sIx (ns.map V.int).length 0 none = 0 := rfl
    have e2 : HT.sIx (ns.map V.int).length (ns.map V.int).length (some 63) = (ns.map V.int).length := by
      rw [List.length_map]
      unfold HT.sIx
      simp
      omega
    rw [e1, e2, List.drop_zero, List.take_of_length_le (by omega)]
  rw [ec]
  refine ⟨p, _, rfl, .inl (SqL.of upd_same), fun l nl => ?_⟩
  have npl : p ≠ l := ne_of_none upd_same nl
  have nHl : H l = none := (same_new np _).free nl
  refine ⟨(by show 5 ≤ sizeLine; decide), fun b nb => ?_⟩
  have nlb : l ≠ b := ne_of_none upd_same nb
  have s1 := (same_new np (.lst (ns.map V.int))).trans (same_new nl (.lst (ns.map V.int)))
  refine q b l _ (s1.free nb) (s1.trans (same_new nb _)) ⟨ns, 0, 0, 4932, 0, upd_same, ?_, nlb, h63, by decide, by decide, by decide⟩
  rw [upd_ne nlb, upd_same]
end

section
variable {P : Program} {w : World} {K : PySem.W.Frag} {mg : Str → Option Value} {base : Heap}
/-! ### _law_pull -/
def spPull : Sp := fun vs H Q _ => ∃ (b l : Addr) (m : Int), vs = [.ref b, .int m] ∧ Bag H b l ∧ 0 < m ∧ m < 2 ^ 62 ∧
  ∀ (d : Int) (H' : Hp), 0 ≤ d → d < m → Kp b H H' → Bag H' b l → Q (.int d) H'
theorem scPull : FnScope ["_law_bag_here", "_law_many", "_law_cell", "_law_digit", "_law_seed"] ["_law_bag_here", "_law_many"] (defScope s_law_pull) := ⟨rfl, rfl, rfl, by decide +kernel, rfl, by decide +kernel, by decide +kernel⟩
theorem ok_pull {f : Addr} {fd : FuncData} (F : Fun K "_law_pull" "_law_pull" s_law_pull f fd) (ml : mg "len" = none) (mi : mg "int" = none) : FnOk P w K mg base CX0 1 f fd ["_law_bag_here", "_law_many"] spPull := by
  refine F.ok scPull (fun vs H Q E h => ?_) (fun cdv A outer s H vs Q E hr h => ?_)
  · obtain ⟨b, l, m, rfl, _⟩ := h
    rfl
  obtain ⟨b, l, m, rfl, hB, hm, hm', q⟩ := h
  have nd := scPull.nd
  refine ⟨_, pss_cons (ps_if (PW.pt (pw_and (pt_cmpR op_eq (pe_ix ix_list (pv 0) pe_int (fun _ _ => rfl)) pe_int (nomark _)) (pw_and1 (pt_cmpR op_lt (pe_ix ix_list (pv 0) pe_int (fun _ _ => rfl)) (pe_callB call_len_seq (by rfl) ml boot_len (pa_cons (pe_ix ix_list (pv 0) pe_int (fun _ _ => rfl)) pa_nil)) (nomark _)))))
      (pss_cons (ps_set (i := 2) nd rfl (.inl rfl) (pe_ix ix_list (pe_ix ix_list (pv 0) pe_int (fun _ _ => rfl)) (pe_ix ix_list (pv 0) pe_int (fun _ _ => rfl)) (fun _ _ => rfl)))
      (pss_cons (ps_asg (pe_op op_add (pe_ix ix_list (pv 0) pe_int (fun _ _ => rfl)) pe_int) (pg_sub (pv 0) pe_int set_list))
      (pss_one (ps_if (pt_cmpR op_ge (pv 2) (pe_op op_pow pe_int pe_int) (nomark _))
        (pss_one (ps_asg (pv 2) (pg_sub (pv 0) pe_int set_list)))
        (pss_one (ps_asg (pe_op op_modN (pe_callTy call_int1 (by rfl) mi (by decide +kernel) (pa_cons (pe_op op_add (pe_op op_add (pe_op op_mul (pe_ix ix_list (pv 0) pe_int (fun _ _ => rfl)) pe_int) (pe_op op_mul (pe_op op_modN (pe_callTy call_int1 (by rfl) mi (by decide +kernel) (pa_cons (pv 2) pa_nil)) pe_int) pe_int)) pe_int) pa_nil)) pe_int) (pg_sub (pv 0) pe_int set_list))))))) pss_nil)
    (pss_cons (ps_if (pt_cmpR op_gt (pe_ix ix_list (pv 0) pe_int (fun _ _ => rfl)) pe_int (nomark _))
      (pss_cons (ps_set (i := 3) nd rfl (.inl rfl) (pe_op op_modN (pe_callTy call_int1 (by rfl) mi (by decide +kernel) (pa_cons (pe_ix ix_list (pv 0) pe_int (fun _ _ => rfl)) pa_nil)) (pv 1)))
      (pss_cons (ps_asg (pe_op op_fdivW (pe_ix ix_list (pv 0) pe_int (fun _ _ => rfl)) (pv 1)) (pg_sub (pv 0) pe_int set_list))
      (pss_one (ps_ret (pv 3))))) pss_nil)
    (pss_cons (ps_asg (pe_op op_add (pe_ix ix_list (pv 0) pe_int (fun _ _ => rfl)) pe_int) (pg_sub (pv 0) pe_int set_list))
    (pss_cons (ps_set (i := 4) nd rfl (.inl rfl) (pe_ix ix_list (pv 0) pe_int (fun _ _ => rfl)))
    (pss_cons (ps_asg (pe_op op_modN (pe_callTy call_int1 (by rfl) mi (by decide +kernel) (pa_cons (pe_op op_add (pe_op op_add (pe_op op_add (pe_op op_mul (pe_op op_mul (pv 4) (pv 4)) pe_int) (pe_op op_mul (pv 4) pe_int)) (pe_op op_mul (pe_ix ix_list (pv 0) pe_int (fun _ _ => rfl)) pe_int)) pe_int) pa_nil)) pe_int) (pg_sub (pv 0) pe_int set_list))
    (pss_one (ps_ret (pe_op op_modN (pe_callTy call_int1 (by rfl) mi (by decide +kernel) (pa_cons (pe_op op_add (pe_op op_fdivN (pe_ix ix_list (pv 0) pe_int (fun _ _ => rfl)) pe_int) (pe_op op_mul (pe_op op_modN (pe_callTy call_int1 (by rfl) mi (by decide +kernel) (pa_cons (pe_ix ix_list (pv 0) pe_int (fun _ _ => rfl)) pa_nil)) pe_int) pe_int)) pa_nil)) (pv 1)))))))), ?_⟩
  refine tseq (fun σ' H' => ∃ cv : Option V, σ' = [some (.ref b), some (.int m), cv, none, none] ∧ Kp b H H' ∧ Bag H' b l) (fun σ' H1 hM => ?_) (fun tail => ?_)
  · obtain ⟨cv, rfl, k, ns, at', big, seed, cnt, h1, h2, hl, h63, hb, h0, h9⟩ := hM
    refine ⟨_, rfl, b, _, _, _, rfl, rfl, SqL.of h1, rfl, _, _, rfl, rfl, _, rfl, ?_⟩
    refine ite2 (fun c => ?_) (fun c => ?_)
    · refine ⟨_, rfl, b, _, _, _, rfl, rfl, SqL.of h1, rfl, .inl ⟨_, rfl, ?_⟩⟩
      refine ⟨_, rfl, _, _, rfl, rfl, (by omega), ?_⟩
      refine ⟨_, rfl, b, _, _, _, rfl, rfl, SqL.of h1, rfl, _, rfl, _, _, rfl, rfl, wide_div hm (b := 62) (by omega) (by decide) (by decide), ?_⟩
      refine ⟨_, rfl, b, _, _, _, rfl, rfl, h1, rfl, ?_⟩
      refine ⟨_, rfl, ?_⟩
      refine q _ _ (fm_in big hm).1 (fm_in big hm).2 (k.trans kp_upd) ⟨ns, at', big / m, seed, cnt, upd_same, ?_, hl, h63, Int.ediv_nonneg (by omega) (by omega), h0, h9⟩
      rw [upd_ne hl]; exact h2
    · refine ⟨_, rfl, b, _, _, _, rfl, rfl, SqL.of h1, rfl, _, _, rfl, rfl, _, rfl, b, _, _, _, rfl, rfl, h1, rfl, ?_⟩
      refine ⟨_, rfl, b, _, _, _, rfl, rfl, SqL.of upd_same, rfl, ?_⟩
      have cs : CMul seed seed := .inl ⟨by omega, by omega⟩
      have cr : ∀ i j : Int, -(2 ^ 64) < j ∧ j < 2 ^ 64 → CMul i j := fun i j h => .inr h
      refine ⟨_, rfl, _, rfl, _, _, rfl, rfl, cs, _, _, rfl, rfl, cr _ _ (by decide), _, rfl, _, _, rfl, rfl, cr _ _ (by decide), _, _, rfl, rfl,
        _, rfl, b, _, _, _, rfl, rfl, SqL.of upd_same, rfl, _, _, rfl, rfl, cr _ _ (by decide), _, _, rfl, rfl, _, _, rfl, rfl, .inl ⟨_, rfl, _, _, rfl, rfl, (by show (2147483629 : Int) ≠ 0; decide), ?_⟩⟩
      refine ⟨_, rfl, b, _, _, _, rfl, rfl, upd_same, rfl, ?_⟩
      have sd := fm_in (seed * seed * 3 + seed * 27011 + (cnt + 1) * 1299689 + 40507) (m := 2147483629) (by decide)
      refine ⟨_, rfl, b, _, _, _, rfl, rfl, SqL.of upd_same, rfl, _, _, rfl, rfl, ⟨by decide, by decide⟩, _, rfl, b, _, _, _, rfl, rfl, SqL.of upd_same, rfl, .inl ⟨_, rfl, _, _, rfl, rfl, (by show (7901 : Int) ≠ 0; decide), _, _, rfl, rfl, cr _ _ (by decide), _, _, rfl, rfl,
        .inl ⟨_, rfl, _, rfl, _, _, rfl, rfl, by omega, ?_⟩⟩⟩
      refine q _ _ (fm_in _ hm).1 (fm_in _ hm).2 (k.trans (kp_upd.trans kp_upd)) ⟨ns, at', big, _, cnt + 1, upd_same, ?_, hl, h63, hb, sd.1, sd.2⟩
      rw [upd_ne hl, upd_ne hl]; exact h2
  · obtain ⟨ns, at', big, seed, cnt, h1, h2, hl, h63, hb, h0, h9⟩ := hB
    refine ⟨_, rfl, b, _, _, _, rfl, rfl, SqL.of h1, rfl, rfl, _, rfl, ?_⟩
    refine ite2 (fun c => ?_) (fun c => ?_)
    · refine ⟨_, rfl, b, _, _, _, rfl, rfl, SqL.of h1, rfl, _, rfl, b, _, _, _, rfl, rfl, SqL.of h1, rfl, l, _, rfl, .inl (SqL.of h2), _, _, rfl, rfl, _, rfl, ?_⟩
      refine ite2 (fun c1 => ?_) (fun c1 => ?_)
      · have c2 : at' < (ns.map V.int).length := by have z := of_decide_eq_true c1; omega
        have c3 : at' < ns.length := by rw [List.length_map] at c2; exact c2
        have hv : atI (ns.map V.int) (at' : Int) = some (.int ns[at']) := atI_nat (by rw [List.getElem?_map, List.getElem?_eq_getElem c3]; rfl)
        refine ⟨_, rfl, b, _, _, _, rfl, rfl, SqL.of h1, rfl, _, rfl, b, _, _, _, rfl, rfl, SqL.of h1, rfl, l, _, _, _, rfl, rfl, SqL.of h2, hv, ?_⟩
        refine ⟨_, rfl, b, _, _, _, rfl, rfl, SqL.of h1, rfl, _, _, rfl, rfl, _, rfl, b, _, _, _, rfl, rfl, h1, rfl, ?_⟩
        refine ⟨_, rfl, _, _, rfl, rfl, ⟨by decide, by decide, by decide⟩, _, _, rfl, rfl, _, rfl, ?_⟩
        refine ite2 (fun c4 => ?_) (fun c4 => ?_)
        · have c5 : ns[at'] ≥ 10 ^ (18 : Int).toNat := of_decide_eq_true c4
          have c6 : (0 : Int) ≤ ns[at'] := by
            have z : (0 : Int) ≤ 10 ^ (18 : Int).toNat := by decide
            omega
          refine ⟨_, rfl, _, rfl, b, _, _, _, rfl, rfl, upd_same, rfl, ?_⟩
          refine tail _ _ ⟨_, rfl, kp_upd.trans kp_upd, ns, at' + 1, ns[at'], seed, cnt, upd_same, ?_, hl, h63, c6, h0, h9⟩
          rw [upd_ne hl, upd_ne hl]; exact h2
        · refine ⟨_, rfl, b, _, _, _, rfl, rfl, SqL.of upd_same, rfl, _, _, rfl, rfl, .inr ⟨by decide, by decide⟩, _, rfl, .inl ⟨_, rfl, _, _, rfl, rfl, (by show (2147483489 : Int) ≠ 0; decide), _, _, rfl, rfl, .inr ⟨by decide, by decide⟩, _, _, rfl, rfl, _, _, rfl, rfl,
            .inl ⟨_, rfl, _, _, rfl, rfl, (by show (2147483629 : Int) ≠ 0; decide), ?_⟩⟩⟩
          refine ⟨_, rfl, b, _, _, _, rfl, rfl, upd_same, rfl, ?_⟩
          have sd := fm_in (seed * 40009 + ns[at'].fmod 2147483489 * 30011 + 17) (m := 2147483629) (by decide)
          refine tail _ _ ⟨_, rfl, kp_upd.trans kp_upd, ns, at' + 1, big, _, cnt, upd_same, ?_, hl, h63, hb, sd.1, sd.2⟩
          rw [upd_ne hl, upd_ne hl]; exact h2
      · refine tail _ _ ⟨none, rfl, .refl _ _, ns, at', big, seed, cnt, h1, h2, hl, h63, hb, h0, h9⟩
    · exact tail _ _ ⟨none, rfl, .refl _ _, ns, at', big, seed, cnt, h1, h2, hl, h63, hb, h0, h9⟩
end

section
variable {P : Program} {w : World} {K : PySem.W.Frag} {mg : Str → Option Value} {base : Heap}
/-! ### _law_any -/
def spAny (K : PySem.W.Frag) : Sp := fun vs H Q _ => ∃ (b l : Addr) (x : V) (its : List V), vs = [.ref b, x] ∧ Bag H b l ∧ Itm K H b x its ∧ 0 < its.length ∧ its.length < 2 ^ 62 ∧
  ∀ (i : Nat) (v : V) (H' : Hp), its[i]? = some v → Kp b H H' → Bag H' b l → Q v H'
theorem scAny : FnScope ["_law_bag_here", "_law_things"] ["_law_bag_here", "_law_things"] (defScope s_law_any) := ⟨rfl, rfl, rfl, by decide +kernel, rfl, by decide +kernel, by decide +kernel⟩
theorem ok_any {f : Addr} {fd : FuncData} (F : Fun K "_law_any" "_law_any" s_law_any f fd) (cP : C8.Cal P w K mg base 1 "_law_pull" spPull []) (ml : mg "len" = none) :
    FnOk P w K mg base CX0 2 f fd ["_law_bag_here", "_law_things"] (spAny K) := by
  refine F.ok scAny (fun vs H Q E h => ?_) (fun cdv A outer s H vs Q E hr h => ?_)
  · obtain ⟨b, l, x, its, rfl, _⟩ := h
    rfl
  obtain ⟨b, l, x, its, rfl, hB, hI, h0, h1, q⟩ := h
  refine ⟨_, pss_one (ps_ret (pe_ix ix_seq (pv 1) (C8.pe_c cP hr (by decide) (by rfl) (pa_cons (pv 0) (pa_cons (pe_callB call_len (by rfl) ml boot_len (pa_cons (pv 1) pa_nil)) pa_nil))) (fun _ _ => rfl))), ?_⟩
  rcases hI with ⟨z, rfl, hz, rfl⟩ | ⟨a, rfl, hab, hs⟩
  · have el : z.length = z.cps.toList.length := by simp [Str.length]
    rw [List.length_map] at h0 h1
    refine ⟨_, rfl, _, rfl, _, rfl, _, z.length, rfl, ⟨hz, rfl⟩, b, l, _, rfl, hB, by omega, by omega, fun d H' hd0 hd1 k hB' => ?_⟩
    have hd : d.toNat < z.cps.toList.length := by omega
    have hat : atI z.cps.toList d = some z.cps.toList[d.toNat] := at_any (by omega) (List.getElem?_eq_getElem hd)
    refine .inr (.inr ⟨z, d, _, rfl, rfl, hz, hat, ?_⟩)
    refine q d.toNat _ H' ?_ k hB'
    rw [List.getElem?_map, List.getElem?_eq_getElem hd]
    rfl
  · have hl : LenV K (.ref a) H its.length := by
      rcases hs with hs | hs
      · exact .inl ⟨_, hs, rfl⟩
      · exact .inr ⟨_, hs, rfl⟩
    refine ⟨_, rfl, _, rfl, _, rfl, _, its.length, rfl, hl, b, l, _, rfl, hB, by omega, by omega, fun d H' hd0 hd1 k hB' => ?_⟩
    have hd : d.toNat < its.length := by omega
    have hg : its[d.toNat]? = some its[d.toNat] := List.getElem?_eq_getElem hd
    have hat : atI its d = some its[d.toNat] := at_of (by omega) hg
    rcases hs with hs | hs
    · exact .inl ⟨a, _, d, _, rfl, rfl, k.seqL hab hs, hat, q _ _ _ hg k hB'⟩
    · exact .inr (.inl ⟨a, _, d, _, rfl, rfl, k.seqT hab hs, hat, q _ _ _ hg k hB'⟩)

end

section
variable {P : Program} {w : World} {K : PySem.W.Frag} {mg : Str → Option Value} {base : Heap}
/-! ### _law_names -/
def spNames : Sp := fun vs H Q _ => ∃ (b l : Addr) (m : Nat), vs = [.ref b, .int (m : Int)] ∧ Bag H b l ∧ m ≤ 1000 ∧
  ∀ (r : Addr) (ws : List (List Nat)) (H' : Hp), Nms m ws → H r = none → Kp b H H' → Bag H' b l → H' r = some (.lst (ws.map fun w => V.str (SX.S w))) → Q (.ref r) H'
theorem scNames : FnScope ["_law_bag_here", "_law_many", "_law_letters", "_law_k", "_law_stem", "_law_at", "_law_first"] ["_law_bag_here", "_law_many"] (defScope s_law_names) := ⟨rfl, rfl, rfl, by decide +kernel, rfl, by decide +kernel, by decide +kernel⟩
theorem ok_names {f : Addr} {fd : FuncData} (F : Fun K "_law_names" "_law_names" s_law_names f fd) (cP : C8.Cal P w K mg base 1 "_law_pull" spPull []) (cA : C8.Cal P w K mg base 2 "_law_any" (spAny K) []) (M : NamesM mg) : FnOk P w K mg base CX0 3 f fd ["_law_bag_here", "_law_many"] spNames := by
  refine F.ok scNames (fun vs H Q E h => ?_) (fun cdv A outer s H vs Q E hr h => ?_)
  · obtain ⟨b, l, m, rfl, _⟩ := h
    rfl
  obtain ⟨b, l, m, rfl, hB, hm, q⟩ := h
  have nd := scNames.nd
  refine ⟨_, pss_cons (ps_set (i := 2) nd rfl (.inr rfl) pe_str)
    (pss_cons (ps_set (i := 4) nd rfl (.inr rfl) (pe_join pe_str (pe_lc (own := [("_law_k", 3)]) (g := gName 3) (tt := tYes) rfl nd (pi_range1 (by rfl) M.range (pa_cons (C8.pe_c cP hr (by decide) (by rfl) (pa_cons (pv 0) (pa_cons pe_int pa_nil))) pa_nil))
      (blkOk_by (own := [("_law_k", 3)]) (N := ["_law_bag_here", "_law_many", "_law_letters", "_law_k", "_law_stem", "_law_at", "_law_first"]) (sc := defScope s_law_names) (by decide +kernel)) (fun _ _ _ _ _ => pg_name (i := 3) nd rfl (Or.inl rfl)) (fun _ _ _ _ _ => pts_nil)
      (fun _ _ _ _ _ => C8.pe_c cA hr (by decide) (by rfl) (pa_cons (pv 0) (pa_cons (pv 2) pa_nil))))))
    (pss_cons (ps_asg (pe_tup (pa_cons (C8.pe_c cP hr (by decide) (by rfl) (pa_cons (pv 0) (pa_cons (pe_op op_add (pe_callB call_len (by rfl) M.len boot_len (pa_cons (pv 4) pa_nil)) pe_int) pa_nil))) (pa_cons (C8.pe_c cP hr (by decide) (by rfl) (pa_cons (pv 0) (pa_cons pe_int pa_nil))) pa_nil)))
      (pg_tup rfl (pgs_cons (pg_name (i := 5) nd rfl (.inr rfl)) (pgs_cons (pg_name (i := 6) nd rfl (.inr rfl)) pgs_nil))))
    (pss_one (ps_ret (pe_lc (own := [("_law_k", 3)]) (g := gName 3) (tt := tYes) rfl nd (pi_range1 (by rfl) M.range (pa_cons (pv 1) pa_nil))
      (blkOk_by (own := [("_law_k", 3)]) (N := ["_law_bag_here", "_law_many", "_law_letters", "_law_k", "_law_stem", "_law_at", "_law_first"]) (sc := defScope s_law_names) (by decide +kernel)) (fun _ _ _ _ _ => pg_name (i := 3) nd rfl (Or.inl rfl)) (fun _ _ _ _ _ => pts_nil)
      (fun _ _ _ _ _ => pe_op op_add_str (pe_op op_add_str (pe_slice C8.sl_txt (pv 4) po_none (po_some (pv 5))) (pe_ix ix_str (pv 2) (pe_op op_modN (pe_callTy call_int1 (by rfl) M.int (by decide +kernel) (pa_cons (pe_op op_add (pv 6) (pe_op op_mul pe_int (pv 3))) pa_nil)) pe_int) (fun _ _ => rfl))) (pe_slice C8.sl_txt (pv 4) (po_some (pv 5)) po_none))))))), ?_⟩
  -- the stem's length, its signs
  refine ⟨⟨_, rfl⟩, _, rfl, b, l, 5, rfl, hB, by decide, by decide, fun d H1 hd0 hd1 k1 B1 => ?_⟩
  refine ⟨d, rfl, by omega, by omega, fun D nD => ?_⟩
  have nDb := B1.new nD
  refine lc_range (lo := 0) (n := d.toNat) (fun i H' => ∃ cs : List Nat, Low cs ∧ cs.length = i ∧ Kp b H H' ∧ Bag H' b l ∧ H' D = some (.lst ((cs.map fun c => (⟨#[c]⟩ : Str)).map V.str))) ⟨[], fun c hc => (by cases hc), rfl, k1.trans (.of (same_new nD _)), B1.kp (same_new nD _), upd_same⟩ ?_ ?_
  · rintro i H2 hi ⟨cs, hlow, hcl, k2, B2, hD⟩
    refine ⟨rfl, _, rfl, _, rfl, b, l, _, abc.map (fun c => V.str ⟨#[c]⟩), rfl, B2, .inl ⟨_, rfl, (by rw [abc_str, SX.S_len, abc_len]; decide), by rw [abc_str]⟩, by rw [List.length_map, abc_len]; decide, by rw [List.length_map, abc_len]; decide, fun j v H3 hv k3 B3 => ?_⟩
    rw [List.getElem?_map] at hv
    obtain ⟨c, hc, rfl⟩ := Option.map_eq_some_iff.mp hv
    have hcl' : Low [c] := .one (abc_mem.mp (List.mem_of_getElem? hc))
    have hD3 := k3 _ _ hD nDb.1
    refine ⟨_, hD3, (by rw [List.length_map, List.length_map, hcl]; exact small1000 (by omega)), cs ++ [c], hlow.app hcl', by rw [List.length_append, hcl]; rfl, ?_, ?_, ?_⟩
    · exact (k2.trans k3).upd (k1.free nDb.1 nD)
    · exact B3.upd nDb.1 nDb.2
    · rw [upd_same, List.map_append, List.map_append]
      rfl
  · rintro H2 ⟨cs, hlow, hcl, k2, B2, hD⟩
    have sz : ((cs.map fun c => (⟨#[c]⟩ : Str)).map (·.length)).sum + (cs.map fun c => (⟨#[c]⟩ : Str)).length * (Str.ofString "").length ≤ 16777216 := by
      have e1 : ∀ l : List Nat, ((l.map fun c => (⟨#[c]⟩ : Str)).map (·.length)).sum = l.length := fun l => by
        induction l with
        | nil => rfl
        | cons c r ih =>
          rw [List.map_cons, List.map_cons, List.sum_cons, ih, List.length_cons]
          show 1 + r.length = r.length + 1
          omega
      have e2 : (Str.ofString "").length = 0 := rfl
      rw [e1, e2]
      omega
    refine ⟨_, D, _, rfl, rfl, .inl (SqL.of hD), sz, ?_⟩
    rw [join_signs]
    have hz : (SX.S cs).length ≤ sizeLine := by rw [SX.S_len]; exact small (by omega)
    -- at, first
    refine ⟨_, rfl, _, rfl, _, (SX.S cs).length, rfl, ⟨hz, rfl⟩, _, _, rfl, rfl, b, l, _, rfl, B2, by omega, by rw [SX.S_len]; omega, fun at' H3 ha0 ha1 k3 B3 => ?_⟩
    refine ⟨_, rfl, b, l, 26, rfl, B3, by decide, by decide, fun fi H4 hf0 hf1 k4 B4 => ?_⟩
    refine ⟨(by show 2 ≤ sizeLine; decide), fun t nt => ⟨t, _, rfl, SqT.of upd_same, rfl, _, _, rfl, _, _, rfl, rfl, ?_⟩⟩
    rw [SX.S_len] at ha1
    have nt' := B4.new nt
    have B5 := B4.kp (same_new nt (.tup [.int at', .int fi]))
    have k5 : Kp b H (upd H4 t (.tup [.int at', .int fi])) := (k2.trans (k3.trans k4)).trans (.of (same_new nt _))
    -- the names
    refine ⟨_, rfl, (m : Int), rfl, by omega, by omega, fun R nR => ?_⟩
    have nR' := B5.new nR
    have hR0 : H R = none := k5.free nR'.1 nR
    refine lc_range (lo := 0) (n := (m : Int).toNat) (fun i H' => Kp b H H' ∧ Bag H' b l ∧ H' R = some (.lst (((List.range i).map (nm cs at'.toNat fi.toNat)).map fun w => V.str (SX.S w)))) ⟨k5.upd hR0, B5.upd nR'.1 nR'.2, upd_same⟩ ?_ ?_
    · rintro i H6 hi ⟨k6, B6, hR⟩
      refine ⟨rfl, ?_⟩
      have him : i < m := by omega
      have e5 : ((fi + 5 * (0 + (i : Int))).fmod 26) = (((fi.toNat + 5 * i) % 26 : Nat) : Int) := by
        rw [Int.fmod_eq_emod_of_nonneg _ (by decide)]
        omega
      have hat : atI ("abcdefghijklmnopqrstuvwxyz" : Str).cps.toList ((fi + 5 * (0 + (i : Int))).fmod 26) = some (97 + (fi.toNat + 5 * i) % 26) := by
        rw [e5, abc_str]
        refine atI_nat ?_
        show abc[(fi.toNat + 5 * i) % 26]? = _
        rw [abc_at (Nat.mod_lt _ (by decide)), Nat.add_comm]
      have hz26 : ("abcdefghijklmnopqrstuvwxyz" : Str).length ≤ sizeLine := by rw [abc_str, SX.S_len, abc_len]; decide
      refine ⟨_, rfl, _, rfl, at', rfl, SX.S cs, rfl, hz, ?_⟩
      rw [SX.slice_to ha0]
      refine ⟨_, rfl, _, rfl, _, rfl, _, _, rfl, rfl, .inl ⟨by decide, by decide⟩, _, _, rfl, rfl, .inl ⟨_, rfl, _, _, rfl, rfl, (by show (26 : Int) ≠ 0; decide), _, _, _, rfl, rfl, hz26, hat, ?_⟩⟩
      refine ⟨_, _, rfl, rfl, (by rw [SX.S_len, List.length_take]; show min _ _ + 1 ≤ sizeLine; exact small (by omega)), ?_⟩
      have ec1 : SX.S (cs.take at'.toNat) ++ (⟨#[97 + (fi.toNat + 5 * i) % 26]⟩ : Str) = SX.S (cs.take at'.toNat ++ [97 + (fi.toNat + 5 * i) % 26]) := SX.S_cat _ [_]
      rw [ec1]
      refine ⟨_, rfl, _, rfl, at', rfl, SX.S cs, rfl, hz, ?_⟩
      rw [SX.slice_from ha0]
      refine ⟨_, _, rfl, rfl, (by rw [SX.S_len, SX.S_len, List.length_append, List.length_take, List.length_drop, List.length_singleton]; exact small (by omega)), ?_⟩
      rw [SX.S_cat]
      refine ⟨_, hR, (by rw [List.length_map, List.length_map, List.length_range]; exact small1000 (by omega)), k6.upd hR0, B6.upd nR'.1 nR'.2, ?_⟩
      rw [upd_same, List.range_succ, List.map_append, List.map_append]
      rfl
    · rintro H6 ⟨k6, B6, hR⟩
      rw [Int.toNat_natCast] at hR
      exact q R _ H6 ⟨cs, at'.toNat, fi.toNat, hlow, by omega, by omega, by omega, rfl⟩ hR0 k6 B6 hR
end

end Ag

namespace Ag
open PySem PySem.Spec PyProof.Rows L2
section
variable {P : Program} {w : World} {K : PySem.W.Frag} {mg : Str → Option Value} {base : Heap}
/-! ### _law_like: two things that are told by the same data are alike -/
def spLike (K : PySem.W.Frag) (n : Nat) : Sp := fun vs H Q _ => ∃ (x y : V) (d : PyData), vs = [x, y] ∧ Da K H x d ∧ Da K H y d ∧ oka n d = true ∧ ∀ H', Same H H' → Q (.bl true) H'
theorem scLike : FnScope ["_law_found", "_law_due", "_law_key", "_law_one", "_law_other"] ["_law_found", "_law_due"] (defScope s_law_like) := ⟨rfl, rfl, rfl, by decide +kernel, rfl, by decide +kernel, by decide +kernel⟩
theorem ok_like {n : Nat} {f : Addr} {fd : FuncData} (F : Fun K "_law_like" "_law_like" s_law_like f fd) (cG : C8.Cal P w K mg base n "_law_like" (spLike K n) []) (M : LikeM mg) :
    FnOk P w K mg base CX0 (n + 1) f fd ["_law_found", "_law_due"] (spLike K (n + 1)) := by
  refine F.ok scLike (fun vs H Q E h => ?_) (fun cdv A outer s H vs Q E hr h => ?_)
  · obtain ⟨x, y, d, rfl, _⟩ := h
    rfl
  obtain ⟨x, y, d, rfl, hx, hy, hok, q⟩ := h
  have nd := scLike.nd
  refine ⟨_, pss_cons (ps_if (pt_val (pe_callB call_isi (by rfl) M.isi (by decide +kernel) (pa_cons (pv 1) (pa_cons (pe_bltn (v := .ty "dict") (u := .type "dict") (by rfl) M.dict (by decide +kernel) rfl) pa_nil)))) (pss_one (ps_ret (pe_and (pe_callB call_isi (by rfl) M.isi (by decide +kernel) (pa_cons (pv 0) (pa_cons (pe_bltn (v := .ty "dict") (u := .type "dict") (by rfl) M.dict (by decide +kernel) rfl) pa_nil)))
        (pe_and (pe_cmpR (op_eqD hr.units) (pe_callB cr_sortedS (by rfl) M.sorted (by decide +kernel) (pa_cons (pe_callTy (call_listD rfl) (by rfl) M.list (by decide +kernel) (pa_cons (pv 0) pa_nil)) pa_nil))
            (pe_callB cr_sortedS (by rfl) M.sorted (by decide +kernel) (pa_cons (pe_callTy (call_listD rfl) (by rfl) M.list (by decide +kernel) (pa_cons (pv 1) pa_nil)) pa_nil)) (nomark _))
          (pe_one (pe_callB (cr_all rfl) (by rfl) M.all (by decide +kernel) (pa_cons (pe_lock (pe_lc (own := [("_law_key", 2)]) (g := gName 2) (tt := tYes) rfl nd (pi_keys (pv 1)) (blkOk_by (own := [("_law_key", 2)]) (N := ["_law_found", "_law_due", "_law_key", "_law_one", "_law_other"]) (sc := defScope s_law_like) (by decide +kernel))
            (fun _ _ _ _ _ => pg_name (i := 2) nd rfl (Or.inl rfl)) (fun _ _ _ _ _ => pts_nil) (fun _ _ _ _ _ => C8.pe_c cG hr (Nat.le_refl n) (by rfl) (pa_cons (pe_dget (hu_of hr) (pv 0) (pv 2) (fun _ _ => rfl)) (pa_cons (pe_dget (hu_of hr) (pv 1) (pv 2) (fun _ _ => rfl)) pa_nil))))) pa_nil))))))) pss_nil)
    (pss_cons (ps_if (pt_val (pe_callB call_isiT (by rfl) M.isi (by decide +kernel) (pa_cons (pv 1) (pa_cons (pe_tup (pa_cons (pe_bltn (v := .ty "list") (u := .type "list") (by rfl) M.list (by decide +kernel) rfl) (pa_cons (pe_bltn (v := .ty "tuple") (u := .type "tuple") (by rfl) M.tuple (by decide +kernel) rfl) pa_nil))) pa_nil))))
      (pss_cons (ps_if (PW.pt (pw_or (pt_cmpR op_ne (pe_callB call_isi (by rfl) M.isi (by decide +kernel) (pa_cons (pv 0) (pa_cons (pe_bltn (v := .ty "list") (u := .type "list") (by rfl) M.list (by decide +kernel) rfl) pa_nil))) (pe_callB call_isi (by rfl) M.isi (by decide +kernel) (pa_cons (pv 1) (pa_cons (pe_bltn (v := .ty "list") (u := .type "list") (by rfl) M.list (by decide +kernel) rfl) pa_nil))) (nomark _))
          (pw_or1 (pt_cmpR op_ne (pe_callB call_isi (by rfl) M.isi (by decide +kernel) (pa_cons (pv 0) (pa_cons (pe_bltn (v := .ty "tuple") (u := .type "tuple") (by rfl) M.tuple (by decide +kernel) rfl) pa_nil))) (pe_callB call_isi (by rfl) M.isi (by decide +kernel) (pa_cons (pv 1) (pa_cons (pe_bltn (v := .ty "tuple") (u := .type "tuple") (by rfl) M.tuple (by decide +kernel) rfl) pa_nil))) (nomark _))))) (pss_one (ps_ret pe_bl)) pss_nil)
      (pss_one (ps_ret (pe_and (pe_cmpR op_eq (pe_callB call_len (by rfl) M.len boot_len (pa_cons (pv 0) pa_nil)) (pe_callB call_len (by rfl) M.len boot_len (pa_cons (pv 1) pa_nil)) (nomark _))
        (pe_one (pe_callB (cr_all rfl) (by rfl) M.all (by decide +kernel) (pa_cons (pe_lc (own := [("_law_one", 3), ("_law_other", 4)]) (g := gTup K 2 (gCons (gName 3) (gCons (gName 4) gNil))) (tt := tYes) rfl nd (RZ.pi_zipA (by rfl) M.zip (pa_cons (pv 0) (pa_cons (pv 1) pa_nil))) (blkOk_by (own := [("_law_one", 3), ("_law_other", 4)]) (N := ["_law_found", "_law_due", "_law_key", "_law_one", "_law_other"]) (sc := defScope s_law_like) (by decide +kernel))
          (fun _ _ _ _ _ => pg_tup rfl (pgs_cons (pg_name (i := 3) nd rfl (Or.inl rfl)) (pgs_cons (pg_name (i := 4) nd rfl (Or.inl rfl)) pgs_nil))) (fun _ _ _ _ _ => pts_nil) (fun _ _ _ _ _ => C8.pe_c cG hr (Nat.le_refl n) (by rfl) (pa_cons (pv 3) (pa_cons (pv 4) pa_nil)))) pa_nil))))))) pss_nil)
    (pss_cons (ps_if (PW.pt (pw_or (pt_cmp (pc_isN (pv 1)) rfl) (pw_or1 (pt_cmp (pc_isN (pv 0)) rfl)))) (pss_one (ps_ret (pe_and (pe_cmp (pc_isN (pv 1)) rfl) (pe_one (pe_cmp (pc_isN (pv 0)) rfl))))) pss_nil)
    (pss_cons (ps_if (PW.pt (pw_or (pt_cmpR op_ne (pe_callB call_isi (by rfl) M.isi (by decide +kernel) (pa_cons (pv 0) (pa_cons (pe_bltn (v := .ty "bool") (u := .type "bool") (by rfl) M.bool (by decide +kernel) rfl) pa_nil))) (pe_callB call_isi (by rfl) M.isi (by decide +kernel) (pa_cons (pv 1) (pa_cons (pe_bltn (v := .ty "bool") (u := .type "bool") (by rfl) M.bool (by decide +kernel) rfl) pa_nil))) (nomark _))
          (pw_or1 (pt_cmpR op_ne (pe_callB call_isi (by rfl) M.isi (by decide +kernel) (pa_cons (pv 0) (pa_cons (pe_bltn (v := .ty "int") (u := .type "int") (by rfl) M.int (by decide +kernel) rfl) pa_nil))) (pe_callB call_isi (by rfl) M.isi (by decide +kernel) (pa_cons (pv 1) (pa_cons (pe_bltn (v := .ty "int") (u := .type "int") (by rfl) M.int (by decide +kernel) rfl) pa_nil))) (nomark _))))) (pss_one (ps_ret pe_bl)) pss_nil)
    (pss_one (ps_ret (pe_and (pe_cmpR op_eq (pe_callB call_isi (by rfl) M.isi (by decide +kernel) (pa_cons (pv 0) (pa_cons (pe_bltn (v := .ty "str") (u := .type "str") (by rfl) M.str (by decide +kernel) rfl) pa_nil))) (pe_callB call_isi (by rfl) M.isi (by decide +kernel) (pa_cons (pv 1) (pa_cons (pe_bltn (v := .ty "str") (u := .type "str") (by rfl) M.str (by decide +kernel) rfl) pa_nil))) (nomark _))
      (pe_one (pe_cmpR op_eq (pv 0) (pv 1) (nomark _))))))))), ?_⟩
  have kd := kit_some (d := d)
  -- isinstance(due, dict)
  refine ⟨_, rfl, y, .ty "dict", _, .type "dict", _, rfl, .ty _, da_tyx hy, isk kd.1, _, rfl, ?_⟩
  by_cases hdic : ∃ es, d = .dict es
  · obtain ⟨es, rfl⟩ := hdic
    refine iteU isD_dic ?_
    cases hx with
    | @dic a kvs kvs' _ ea p1 n1 r1 =>
    cases hy with
    | @dic c kws kws' _ ec p2 n2 r2 =>
      refine ⟨_, rfl, .ref a, .ty "dict", _, .type "dict", _, rfl, .ty _, .base (.dK ea), isk (d := .dict es) kd.1, _, rfl, iteU isD_dic ?_⟩
      obtain ⟨k1, e1, l1, o1, t1, u1⟩ := dic_keys (fun _ _ z => z.1) hok r1
      obtain ⟨k2, e2, l2, o2, t2, u2⟩ := dic_keys (fun _ _ z => z.1) hok r2
      have e12 : k1 = k2 := by
        have z := t1.symm.trans t2
        have inj : ∀ (a b : List Str), a.map PyData.str = b.map PyData.str → a = b := fun a => by
          induction a with
          | nil => intro b h; cases b with
            | nil => rfl
            | cons _ _ => cases h
          | cons x r ih => intro b h; cases b with
            | nil => cases h
            | cons y t =>
              rw [List.map_cons, List.map_cons] at h
              injection h with h1 h2
              injection h1 with h1
              rw [h1, ih t h2]
        exact inj _ _ z
      subst e12
      have hl64 : es.length < 64 := by
        simp only [oka, Bool.and_eq_true, decide_eq_true_eq] at hok
        exact hok.1
      -- the keys, sorted
      have q1 : (kvs.map fun kv => kV kv.1).Perm (k1.map V.str) := by rw [← e1]; exact p1.map _
      have q2 : (kws.map fun kv => kV kv.1).Perm (k1.map V.str) := by rw [← e2]; exact p2.map _
      have keysof : ∀ {l : List (Key × V)} {m : List (Key × V)}, l.Perm m → ∀ {ks : List Str}, (m.map (·.1)) = ks.map Sum.inr → ∃ ks' : List Str, (l.map fun kv => kV kv.1) = ks'.map V.str ∧ ks'.Perm ks := by
        intro l m pm ks hm
        have pk : (l.map (·.1)).Perm (ks.map Sum.inr) := by rw [← hm]; exact pm.map _
        let un : Key → Str := fun k => match k with | .inl _ => ⟨#[]⟩ | .inr x => x
        have hall : ∀ kv ∈ l, ∃ x, kv.1 = Sum.inr x := fun kv hkv => by
          have z : kv.1 ∈ ks.map (Sum.inr (α := Int)) := pk.mem_iff.mp (List.mem_map.mpr ⟨kv, hkv, rfl⟩)
          obtain ⟨x, _, e⟩ := List.mem_map.mp z
          exact ⟨x, e.symm⟩
        refine ⟨l.map fun kv => un kv.1, ?_, ?_⟩
        · rw [List.map_map]
          refine List.map_congr_left fun kv hkv => ?_
          obtain ⟨x, e⟩ := hall kv hkv
          show kV kv.1 = V.str (un kv.1)
          rw [e]
          rfl
        · have z := pk.map un
          rw [List.map_map, List.map_map] at z
          have z2 : ks.map (un ∘ Sum.inr) = ks := by
            have : (un ∘ Sum.inr : Str → Str) = id := rfl
            rw [this, List.map_id]
          rw [z2] at z
          exact z
      obtain ⟨ka, ea1, pa1⟩ := keysof p1 u1
      obtain ⟨kb, eb1, pb1⟩ := keysof p2 u2
      refine ⟨_, rfl, a, kvs, rfl, .inl ea, fun L1 nL1 => ?_⟩
      rw [ea1]
      refine ⟨L1, ka, rfl, SqL.of upd_same, by rw [pa1.length_eq, l1]; exact hl64, fun s1 S1 ps1 ss1 nS1 => ?_⟩
      have g1 := same_new nL1 (.lst (ka.map V.str))
      have g2 := same_new nS1 (.lst (s1.map V.str))
      refine ⟨_, rfl, c, kws, rfl, .inl ((g1.trans g2) _ _ ec), fun L2 nL2 => ?_⟩
      rw [eb1]
      refine ⟨L2, kb, rfl, SqL.of upd_same, by rw [pb1.length_eq, l1]; exact hl64, fun s2 S2 ps2 ss2 nS2 => ?_⟩
      have g3 := same_new nL2 (.lst (kb.map V.str))
      have g4 := same_new nS2 (.lst (s2.map V.str))
      have es12 : s1 = s2 := sorted_one (ps1.trans (pa1.trans (pb1.symm.trans ps2.symm))) ss1 ss2
      subst es12
      have ok1 : ∀ y ∈ s1, (y.cps.all (· < 0x110000)) = true := fun y hy => o1 y ((ps1.trans pa1).mem_iff.mp hy)
      have hsh := shaped_strs ok1
      have g5 := (g1.trans g2).trans (g3.trans g4)
      refine ⟨.list (s1.map PyData.str), .list (s1.map PyData.str), .lst (SqL.of ((g3.trans g4) _ _ upd_same)) (dpall_strs s1), .lst (SqL.of upd_same) (dpall_strs s1), hsh, hsh, _, rfl, iteU (SeqAt.eqv_refl _ (lay_strs s1 ok1)) ?_⟩
      -- item by item
      have hc5 := g5 _ _ ec
      have ha5 := g5 _ _ ea
      refine ⟨c, .dK kws, hc5, trivial, fun od => ?_⟩
      refine ⟨_, rfl, c, od, rfl, .inl ⟨kws, upd_same, fun D nD => ?_⟩⟩
      have nDc : D ≠ c := (ne_of_none upd_same nD).symm
      have lk := RdLe.lock hc5 (show Mut (some (.dK kws)) from trivial) od
      refine lc_it (walk_keys (d := c) (o := od) (kvs := kws)) (fun i H' => Same (upd _ c (.frz od (.dK kws))) H' ∧ H' D = some (.lst (List.replicate i (.bl true)))) ⟨same_new nD _, upd_same⟩ (fun i H' _ pv => pv.1 _ _ upd_same) ?_ ?_
      · rintro i v H2 _ hi ⟨w1, w2⟩ ⟨rfl, k, v', hk, rfl⟩
        have hm2 : (k, v') ∈ kws := List.mem_of_getElem? hk
        obtain ⟨e, he, hk2, hd2⟩ := paired_mem r2 (p2.mem_iff.mp hm2)
        obtain ⟨kv1, hkv1, hk1, hd1⟩ := paired_mem2 r1 he
        have ek : kv1.1 = k := by
          have z : keyD kv1.1 = keyD k := hk1.symm.trans hk2
          cases h1 : kv1.1 <;> cases h2 : k <;> (rw [h1, h2] at z; simp only [keyD] at z; first | (injection z with z; rw [z]) | cases z)
        have hv1 : valV kvs k = some kv1.2 := valV_of n1 (by rw [← ek]; exact p1.mem_iff.mpr hkv1)
        have hv2 : valV kws k = some v' := valV_of n2 hm2
        have rdl : RdLe H _ := fun b u z => RdLe.of w1 _ _ (lk _ _ (RdLe.of g5 _ _ z))
        refine ⟨rfl, ?_⟩
        refine ⟨_, rfl, _, rfl, a, _, rfl, .inl ⟨kvs, k, rdl _ _ (.inl ea), rfl, hv1.symm⟩, ?_⟩
        refine ⟨_, rfl, _, rfl, c, _, rfl, .inl ⟨kws, k, rdl _ _ (.inl ec), rfl, hv2.symm⟩, ?_⟩
        have hoke : oka n e.2 = true := by
          simp only [oka, Bool.and_eq_true, List.all_eq_true] at hok
          exact (hok.2 e he).2
        refine ⟨_, _, e.2, rfl, Da_of (Dp_rd rdl hd1), Da_of (Dp_rd rdl hd2), hoke, fun H3 g6 => ?_⟩
        have hil : i < kws.length := hi
        have hlen : kws.length < 64 := by
          have z := (p2.map (·.1)).length_eq
          rw [u2, List.length_map, List.length_map, l1] at z
          omega
        refine ⟨_, g6 _ _ w2, (by rw [List.length_replicate]; exact small1000 (by omega)), fun b o hb => ?_, ?_⟩
        · rw [upd_ne (ne_of_none hb nD)]
          exact g6 _ _ (w1 _ _ hb)
        · rw [upd_same, List.replicate_succ']
      · rintro H' ⟨w1, w2⟩
        refine ⟨w1 _ _ upd_same, ?_⟩
        refine ⟨D, List.replicate kws.length true, rfl, SqL.of (by rw [upd_ne nDc, w2, rep_bl]), ?_⟩
        rw [rep_all]
        refine q _ fun b o hb => ?_
        by_cases hbc : b = c
        · subst hbc
          rw [upd_same]
          rw [ec] at hb
          exact hb
        · rw [upd_ne hbc]
          exact w1 _ _ (by rw [upd_ne hbc]; exact g5 _ _ hb)
  refine iteE (isD_nodict fun es e => hdic ⟨es, e⟩) ?_
  -- isinstance(due, (list, tuple))
  refine ⟨_, rfl, (by show 2 ≤ sizeLine; decide), fun p np => ⟨y, p, _, _, _, _, rfl, upd_same, ct2, da_tyx (Da_same (same_new np _) hy), iskT, _, rfl, ?_⟩⟩
  have s1 : Same H (upd H p (.tup [.ty "list", .ty "tuple"])) := same_new np _
  replace hx := Da_same s1 hx
  replace hy := Da_same s1 hy
  have isn : ∀ T, (decide (V.bl (isD T d) = V.bl (isD T d))) = true := fun T => by simp
  by_cases hseq : (∃ ds, d = .list ds) ∨ ∃ ds, d = .tuple ds
  · refine iteU (isD_seq hseq) ?_
    refine ⟨_, rfl, x, .ty "list", _, .type "list", _, rfl, .ty _, da_tyx hx, isk kd.2.1, _, rfl, y, .ty "list", _, .type "list", _, rfl, .ty _, da_tyx hy, isk kd.2.1, rfl, _, rfl, iteNS rfl ?_⟩
    refine ⟨_, rfl, x, .ty "tuple", _, .type "tuple", _, rfl, .ty _, da_tyx hx, isk kd.2.2.1, _, rfl, y, .ty "tuple", _, .type "tuple", _, rfl, .ty _, da_tyx hy, isk kd.2.2.1, rfl, _, rfl, iteNS rfl ?_⟩
    rcases hseq with ⟨ds, rfl⟩ | ⟨ds, rfl⟩
    · simp only [oka, Bool.and_eq_true, decide_eq_true_eq, List.all_eq_true] at hok
      cases hx with
      | @lst a xs _ q1 a1 =>
        cases hy with
        | @lst c ys _ q2 a2 =>
          have l1 := daall_len a1
          have l2 := daall_len a2
          have eln : decide (V.int (xs.length : Nat) = V.int (ys.length : Nat)) = true := by rw [l1, l2]; exact decide_eq_true rfl
          refine ⟨_, rfl, _, xs.length, rfl, .inl ⟨_, q1, rfl⟩, _, rfl, _, ys.length, rfl, .inl ⟨_, q2, rfl⟩, rfl, _, rfl, iteU eln ?_⟩
          refine ⟨_, rfl, _, rfl, a, c, xs, ys, rfl, .inl ⟨q1, q2, fun D nD => ?_⟩⟩
          refine lc_it (walk_zip (n := ds.length) (by omega)) (fun i H' => Same (upd H p (.tup [.ty "list", .ty "tuple"])) H' ∧ H' D = some (.lst (List.replicate i (.bl true)))) ⟨same_new nD _, upd_same⟩
            (fun i H' _ pv => ⟨Same.seq pv.1 q1, Same.seq pv.1 q2⟩) ?_ ?_
          · rintro i v H1 H2 hi ⟨g1, g2⟩ ⟨T, u, v', rfl, nT, rfl, hu, hv⟩
            obtain ⟨e, he, de⟩ := daall_get a1 hu
            obtain ⟨e', he', de'⟩ := daall_get a2 hv
            have ee : e' = e := by rw [he] at he'; exact (Option.some.inj he').symm
            subst ee
            have g3 := same_new nT (.tup [u, v'])
            have g4 := g1.trans g3
            refine ⟨T, [u, v'], rfl, SqT.of upd_same, rfl, u, [v'], rfl, v', [], rfl, rfl, rfl, ?_⟩
            refine ⟨_, rfl, _, rfl, u, v', e', rfl, Da_same g4 de, Da_same g4 de', hok.2 _ (List.mem_of_getElem? he), fun H3 g5 => ?_⟩
            have hD3 := g5 _ _ (g3 _ _ g2)
            have hil : i < sizeLine := small1000 (by omega)
            refine ⟨_, hD3, (by rw [List.length_replicate]; exact hil), fun b o hb => ?_, ?_⟩
            · have nb : b ≠ D := ne_of_none hb nD
              rw [upd_ne nb]
              exact g5 _ _ (g4 _ _ hb)
            · rw [upd_same, List.replicate_succ']
          · rintro H' ⟨g1, g2⟩
            refine ⟨D, List.replicate ds.length true, rfl, SqL.of (by rw [g2, rep_bl]), ?_⟩
            rw [rep_all]
            exact q _ (s1.trans g1)
    · simp only [oka, Bool.and_eq_true, decide_eq_true_eq, List.all_eq_true] at hok
      cases hx with
      | @tup a xs _ q1 a1 =>
        cases hy with
        | @tup c ys _ q2 a2 =>
          have l1 := daall_len a1
          have l2 := daall_len a2
          have eln : decide (V.int (xs.length : Nat) = V.int (ys.length : Nat)) = true := by rw [l1, l2]; exact decide_eq_true rfl
          refine ⟨_, rfl, _, xs.length, rfl, .inr ⟨_, q1, rfl⟩, _, rfl, _, ys.length, rfl, .inr ⟨_, q2, rfl⟩, rfl, _, rfl, iteU eln ?_⟩
          refine ⟨_, rfl, _, rfl, a, c, xs, ys, rfl, .inr ⟨q1, q2, fun D nD => ?_⟩⟩
          refine lc_it (walk_zipT (n := ds.length) (by omega)) (fun i H' => Same (upd H p (.tup [.ty "list", .ty "tuple"])) H' ∧ H' D = some (.lst (List.replicate i (.bl true)))) ⟨same_new nD _, upd_same⟩
            (fun i H' _ pv => ⟨sameT pv.1 q1, sameT pv.1 q2⟩) ?_ ?_
          · rintro i v H1 H2 hi ⟨g1, g2⟩ ⟨T, u, v', rfl, nT, rfl, hu, hv⟩
            obtain ⟨e, he, de⟩ := daall_get a1 hu
            obtain ⟨e', he', de'⟩ := daall_get a2 hv
            have ee : e' = e := by rw [he] at he'; exact (Option.some.inj he').symm
            subst ee
            have g3 := same_new nT (.tup [u, v'])
            have g4 := g1.trans g3
            refine ⟨T, [u, v'], rfl, SqT.of upd_same, rfl, u, [v'], rfl, v', [], rfl, rfl, rfl, ?_⟩
            refine ⟨_, rfl, _, rfl, u, v', e', rfl, Da_same g4 de, Da_same g4 de', hok.2 _ (List.mem_of_getElem? he), fun H3 g5 => ?_⟩
            have hD3 := g5 _ _ (g3 _ _ g2)
            have hil : i < sizeLine := small1000 (by omega)
            refine ⟨_, hD3, (by rw [List.length_replicate]; exact hil), fun b o hb => ?_, ?_⟩
            · have nb : b ≠ D := ne_of_none hb nD
              rw [upd_ne nb]
              exact g5 _ _ (g4 _ _ hb)
            · rw [upd_same, List.replicate_succ']
          · rintro H' ⟨g1, g2⟩
            refine ⟨D, List.replicate ds.length true, rfl, SqL.of (by rw [g2, rep_bl]), ?_⟩
            rw [rep_all]
            exact q _ (s1.trans g1)
  · refine iteE (isD_leaf (fun ds e => hseq (.inl ⟨ds, e⟩)) (fun ds e => hseq (.inr ⟨ds, e⟩))) ?_
    have nl : ∀ ds, d ≠ .list ds := fun ds e => hseq (.inl ⟨ds, e⟩)
    have nt : ∀ ds, d ≠ .tuple ds := fun ds e => hseq (.inr ⟨ds, e⟩)
    have exy : x = y ∧ ((scal x y = true ∧ decide (x = .non) = false) ∨ x = .non) := by
      cases hx with
      | non => cases hy; exact ⟨rfl, .inr rfl⟩
      | bl b => cases hy; exact ⟨rfl, .inl ⟨rfl, rfl⟩⟩
      | int b => cases hy; exact ⟨rfl, .inl ⟨rfl, rfl⟩⟩
      | str b => cases hy; exact ⟨rfl, .inl ⟨rfl, rfl⟩⟩
      | dic _ _ _ _ => exact absurd ⟨_, rfl⟩ hdic
      | lst _ _ => exact absurd rfl (nl _)
      | tup _ _ => exact absurd rfl (nt _)
    obtain ⟨rfl, hsc⟩ := exy
    rcases hsc with ⟨hsc, en⟩ | hn
    · refine ⟨_, rfl, _, rfl, iteE en ⟨_, rfl, _, rfl, iteE en ?_⟩⟩
      refine ⟨_, rfl, x, .ty "bool", _, .type "bool", _, rfl, .ty _, da_tyx hx, isk kd.2.2.2.1, _, rfl, x, .ty "bool", _, .type "bool", _, rfl, .ty _, da_tyx hy, isk kd.2.2.2.1, rfl, _, rfl, iteNS rfl ?_⟩
      refine ⟨_, rfl, x, .ty "int", _, .type "int", _, rfl, .ty _, da_tyx hx, isk kd.2.2.2.2.1, _, rfl, x, .ty "int", _, .type "int", _, rfl, .ty _, da_tyx hy, isk kd.2.2.2.2.1, rfl, _, rfl, iteNS rfl ?_⟩
      refine ⟨_, rfl, x, .ty "str", _, .type "str", _, rfl, .ty _, da_tyx hx, isk kd.2.2.2.2.2, _, rfl, x, .ty "str", _, .type "str", _, rfl, .ty _, da_tyx hy, isk kd.2.2.2.2.2, rfl, _, rfl, iteU (isn _) ?_⟩
      refine ⟨_, rfl, _, rfl, hsc, ?_⟩
      rw [decide_eq_true rfl]
      exact q _ s1
    · subst hn
      refine ⟨_, rfl, _, rfl, iteU rfl ⟨_, rfl, _, rfl, iteU rfl ⟨_, rfl, ?_⟩⟩⟩
      exact q _ s1
theorem no_like0 (vs : List V) (H : Hp) (Q : VK) (E : XK) : ¬ spLike K 0 vs H Q E := by
  rintro ⟨x, y, d, _, _, _, h, _⟩
  cases h
theorem like_cal {f : Addr} {fd : FuncData} (F : Fun K "_law_like" "_law_like" s_law_like f fd) (b : Binds K fd ["_law_found", "_law_due"] []) (m : mg "_law_like" = some (.ref f)) (M : LikeM mg) : ∀ n : Nat, C8.Cal P w K mg base n "_law_like" (spLike K n) []
  | 0 => ⟨f, fd, ["_law_found", "_law_due"], [], ⟨fun vs H Q E h => absurd h (no_like0 vs H Q E), fun A outer s H args us vs Q E _ _ _ _ h => absurd h (no_like0 vs H Q E)⟩, m, F.kp, b, .nil⟩
  | n + 1 => ⟨f, fd, ["_law_found", "_law_due"], [], ok_like F (like_cal F b m M n) M, m, F.kp, b, .nil⟩
end

end Ag

namespace Ag
open PySem PySem.Spec PyProof.Rows L2
section
variable {P : Program} {w : World} {K : PySem.W.Frag} {mg : Str → Option Value} {base : Heap}
/-! ### _law_form -/
def spForm (K : PySem.W.Frag) (n : Nat) : Sp := fun vs H Q _ => ∃ (b l wa : Addr) (ws : List (List Nat)) (dp : Int), vs = [.ref b, .ref wa, .int dp] ∧ Bag H b l ∧ SqL K H wa (ws.map fun w => V.str (SX.S w)) ∧ wa ≠ b ∧ 0 < ws.length ∧ ws.length ≤ 1000 ∧ 1 ≤ dp ∧ dp ≤ n ∧
  ∀ (v : V) (t : Fm) (H' : Hp), okF ws [] dp.toNat t → Fr K H' v t → Kp b H H' → Bag H' b l → Q v H'
abbrev nForm : List Str := ["_law_bag_here", "_law_words", "_law_deep", "_law_way", "_law_one"]
theorem scForm : FnScope nForm ["_law_bag_here", "_law_words", "_law_deep"] (defScope s_law_form) := ⟨rfl, rfl, rfl, by decide +kernel, rfl, by decide +kernel, by decide +kernel⟩
theorem ok_form {n : Nat} {f : Addr} {fd : FuncData} (F : Fun K "_law_form" "_law_form" s_law_form f fd) (cP : C8.Cal P w K mg base 1 "_law_pull" spPull []) (cA : C8.Cal P w K mg base 2 "_law_any" (spAny K) []) (cF : C8.Cal P w K mg base (n + 2) "_law_form" (spForm K n) []) :
    FnOk P w K mg base CX0 (n + 3) f fd ["_law_bag_here", "_law_words", "_law_deep"] (spForm K (n + 1)) := by
  refine F.ok scForm (fun vs H Q E h => ?_) (fun cdv A outer s H vs Q E hr h => ?_)
  · obtain ⟨b, l, wa, ws, dp, rfl, _⟩ := h
    rfl
  obtain ⟨b, l, wa, ws, dp, rfl, hB, hw, nwb, w0, w1, d0, d1, q⟩ := h
  have nd := scForm.nd
  refine ⟨_, pss_cons (ps_set (i := 3) nd rfl (.inl rfl) (C8.pe_c cP hr (by omega) (by rfl) (pa_cons (pv 0) (pa_cons pe_int pa_nil))))
    (pss_cons (ps_if (PW.pt (pw_or (pt_cmpR op_lt (pv 2) pe_int (nomark _)) (pw_or1 (pt_cmpR op_lt (pv 3) pe_int (nomark _)))))
      (pss_one (ps_ret (pe_ifExp (pt_cmpR op_eq (C8.pe_c cP hr (by omega) (by rfl) (pa_cons (pv 0) (pa_cons pe_int pa_nil))) pe_int (nomark _)) (pe_tup (pa_cons pe_str pa_nil)) (pe_tup (pa_cons pe_str (pa_cons (C8.pe_c cA hr (by omega) (by rfl) (pa_cons (pv 0) (pa_cons (pv 1) pa_nil))) pa_nil)))))) pss_nil)
    (pss_cons (ps_set (i := 4) nd rfl (.inl rfl) (C8.pe_c cF hr (Nat.le_refl _) (by rfl) (pa_cons (pv 0) (pa_cons (pv 1) (pa_cons (pe_op op_sub (pv 2) pe_int) pa_nil)))))
    (pss_one (ps_ret (pe_tup (pa_cons (pe_ix ix_tup (pe_tup (pa_cons pe_str (pa_cons pe_str (pa_cons pe_str pa_nil)))) (pe_op op_sub (pv 3) pe_int) (fun _ _ => rfl)) (pa_cons (pv 4) (pa_cons (C8.pe_c cF hr (Nat.le_refl _) (by rfl) (pa_cons (pv 0) (pa_cons (pv 1) (pa_cons (pe_op op_sub (pv 2) pe_int) pa_nil)))) pa_nil)))))))), ?_⟩
  refine ⟨_, rfl, b, l, 5, rfl, hB, by decide, by decide, fun wy H1 y0 y5 k1 B1 => ?_⟩
  have hdp : dp.toNat = (dp.toNat - 1) + 1 := by omega
  have leaf : ∀ t : Fm, (t = .fls ∨ ∃ w, t = .atom w ∧ w ∈ ws) → okF ws [] dp.toNat t := by
    intro t ht
    rw [hdp]
    rcases ht with rfl | ⟨w, rfl, hw⟩
    · trivial
    · exact hw
  refine ⟨_, rfl, _, _, rfl, rfl, _, rfl, ?_⟩
  by_cases hl : dp < 2 ∨ wy < 2
  · by_cases h1 : dp < 2
    all_goals first | refine iteU (decide_eq_true h1) ?_ | refine iteE (decide_eq_false h1) ⟨_, rfl, _, _, rfl, rfl, _, rfl, iteU (decide_eq_true (by omega)) ?_⟩
    all_goals
      refine ⟨_, rfl, b, l, 7, rfl, B1, by decide, by decide, fun d7 H2 _ _ k2 B2 => ⟨rfl, _, rfl, ite2 (fun _ => ?_) (fun _ => ?_)⟩⟩
      · refine ⟨(by show 1 ≤ sizeLine; decide), fun p np => ?_⟩
        exact q _ .fls _ (leaf _ (.inl rfl)) (mk_fls (SqT.of upd_same)) ((k1.trans k2).trans (.of (same_new np _))) (B2.kp (same_new np _))
      · have k12 := k1.trans k2
        refine ⟨_, rfl, _, rfl, b, l, _, _, rfl, B2, .inr ⟨wa, rfl, nwb, .inl (k12.seqL nwb hw)⟩, by rw [List.length_map]; exact w0, by rw [List.length_map]; omega, fun i v H3 hv k3 B3 => ?_⟩
        rw [List.getElem?_map] at hv
        obtain ⟨u, hu, rfl⟩ := Option.map_eq_some_iff.mp hv
        refine ⟨(by show 2 ≤ sizeLine; decide), fun p np => ?_⟩
        exact q _ (.atom u) _ (leaf _ (.inr ⟨u, rfl, List.mem_of_getElem? hu⟩)) (mk_atom (SqT.of upd_same)) ((k12.trans k3).trans (.of (same_new np _))) (B3.kp (same_new np _))
  · have h1 : ¬ dp < 2 := fun z => hl (.inl z)
    have h2 : ¬ wy < 2 := fun z => hl (.inr z)
    refine iteE (decide_eq_false h1) ⟨_, rfl, _, _, rfl, rfl, _, rfl, iteE (decide_eq_false h2) ?_⟩
    refine ⟨_, rfl, _, rfl, _, rfl, _, _, rfl, rfl, b, l, wa, ws, dp - 1, rfl, B1, k1.seqL nwb hw, nwb, w0, w1, by omega, by omega, fun v1 t1 H2 o1 f1 k2 B2 => ?_⟩
    refine ⟨(by show 3 ≤ sizeLine; decide), fun p np => ?_⟩
    have g1 := same_new np (.tup [.str "then", .str "and", .str "or"])
    have B3 := B2.kp g1
    have k12 := k1.trans k2
    have hy3 : (wy - 2).toNat < 3 := by omega
    generalize hj : (⟨(wy - 2).toNat, hy3⟩ : Fin 3) = j
    have hy : wy - 2 = ((j.val : Nat) : Int) := by rw [← hj]; show wy - 2 = (((wy - 2).toNat : Nat) : Int); omega
    refine ⟨_, rfl, _, _, rfl, rfl, p, _, _, _, rfl, rfl, SqT.of upd_same, (by rw [hy]; exact atI_kd j), ?_⟩
    refine ⟨_, rfl, _, rfl, _, rfl, _, rfl, _, _, rfl, rfl, b, l, wa, ws, dp - 1, rfl, B3, g1.seq (k12.seqL nwb hw), nwb, w0, w1, by omega, by omega, fun v2 t2 H4 o2 f2 k4 B4 => ?_⟩
    refine ⟨(by show 3 ≤ sizeLine; decide), fun r nr => ?_⟩
    have g2 := same_new nr (.tup [.str (kd j), v1, v2])
    refine q _ (.bin j t1 t2) _ ?_ (mk_bin (SqT.of upd_same) (((f1.same g1).kp k4 B3).same g2) (f2.same g2)) ((k12.trans (.of g1)).trans (k4.trans (.of g2))) (B4.kp g2)
    rw [hdp]
    have e1 : (dp - 1).toNat = dp.toNat - 1 := by omega
    rw [e1] at o1 o2
    exact ⟨o1, o2⟩
theorem no_form0 (vs : List V) (H : Hp) (Q : VK) (E : XK) : ¬ spForm K 0 vs H Q E := by
  rintro ⟨b, l, wa, ws, dp, _, _, _, _, _, _, h0, h1, _⟩
  omega
theorem form_cal {f : Addr} {fd : FuncData} (F : Fun K "_law_form" "_law_form" s_law_form f fd) (b : Binds K fd ["_law_bag_here", "_law_words", "_law_deep"] []) (m : mg "_law_form" = some (.ref f)) (cP : C8.Cal P w K mg base 1 "_law_pull" spPull []) (cA : C8.Cal P w K mg base 2 "_law_any" (spAny K) []) : ∀ n : Nat, C8.Cal P w K mg base (n + 2) "_law_form" (spForm K n) []
  | 0 => ⟨f, fd, ["_law_bag_here", "_law_words", "_law_deep"], [], ⟨fun vs H Q E h => absurd h (no_form0 vs H Q E), fun A outer s H args us vs Q E _ _ _ _ h => absurd h (no_form0 vs H Q E)⟩, m, F.kp, b, .nil⟩
  | n + 1 => ⟨f, fd, ["_law_bag_here", "_law_words", "_law_deep"], [], ok_form F cP cA (form_cal F b m cP cA n), m, F.kp, b, .nil⟩
end

section
variable {P : Program} {w : World} {K : PySem.W.Frag} {mg : Str → Option Value} {base : Heap}
/-! ### _law_shape -/
def hs3 : List (List Nat) := [[97], [98], [99]]
def spShape (K : PySem.W.Frag) (n : Nat) : Sp := fun vs H Q _ => ∃ (b l wa : Addr) (ws : List (List Nat)) (dp : Int), vs = [.ref b, .ref wa, .int dp] ∧ Bag H b l ∧ SqL K H wa (ws.map fun w => V.str (SX.S w)) ∧ wa ≠ b ∧ 0 < ws.length ∧ ws.length ≤ 1000 ∧ 1 ≤ dp ∧ dp ≤ n ∧
  ∀ (v : V) (t : Fm) (H' : Hp), okF ws hs3 dp.toNat t → Fr K H' v t → Kp b H H' → Bag H' b l → Q v H'
abbrev nShape : List Str := ["_law_bag_here", "_law_words", "_law_deep", "_law_way", "_law_one"]
theorem scShape : FnScope nShape ["_law_bag_here", "_law_words", "_law_deep"] (defScope s_law_shape) := ⟨rfl, rfl, rfl, by decide +kernel, rfl, by decide +kernel, by decide +kernel⟩
theorem ok_shape {n : Nat} {f : Addr} {fd : FuncData} (F : Fun K "_law_shape" "_law_shape" s_law_shape f fd) (cP : C8.Cal P w K mg base 1 "_law_pull" spPull []) (cA : C8.Cal P w K mg base 2 "_law_any" (spAny K) []) (cM : C8.Cal P w K mg base 3 "_law_form" (spForm K 1) []) (cF : C8.Cal P w K mg base (n + 3) "_law_shape" (spShape K n) []) :
    FnOk P w K mg base CX0 (n + 4) f fd ["_law_bag_here", "_law_words", "_law_deep"] (spShape K (n + 1)) := by
  refine F.ok scShape (fun vs H Q E h => ?_) (fun cdv A outer s H vs Q E hr h => ?_)
  · obtain ⟨b, l, wa, ws, dp, rfl, _⟩ := h
    rfl
  obtain ⟨b, l, wa, ws, dp, rfl, hB, hw, nwb, w0, w1, d0, d1, q⟩ := h
  have nd := scShape.nd
  refine ⟨_, pss_cons (ps_set (i := 3) nd rfl (.inl rfl) (C8.pe_c cP hr (by omega) (by rfl) (pa_cons (pv 0) (pa_cons pe_int pa_nil))))
    (pss_cons (ps_if (pt_cmpR op_eq (pv 3) pe_int (nomark _)) (pss_one (ps_ret (pe_tup (pa_cons pe_str (pa_cons (C8.pe_c cA hr (by omega) (by rfl) (pa_cons (pv 0) (pa_cons (pe_lst (pa_cons pe_str (pa_cons pe_str (pa_cons pe_str pa_nil)))) pa_nil))) pa_nil))))) pss_nil)
    (pss_cons (ps_if (PW.pt (pw_or (pt_cmpR op_lt (pv 2) pe_int (nomark _)) (pw_or1 (pt_cmpR op_lt (pv 3) pe_int (nomark _)))))
      (pss_one (ps_ret (pe_ifExp (pt_cmpR op_eq (C8.pe_c cP hr (by omega) (by rfl) (pa_cons (pv 0) (pa_cons pe_int pa_nil))) pe_int (nomark _)) (pe_tup (pa_cons pe_str (pa_cons (C8.pe_c cA hr (by omega) (by rfl) (pa_cons (pv 0) (pa_cons (pe_lst (pa_cons pe_str (pa_cons pe_str pa_nil))) pa_nil))) pa_nil)))
        (C8.pe_c cM hr (by omega) (by rfl) (pa_cons (pv 0) (pa_cons (pv 1) (pa_cons pe_int pa_nil))))))) pss_nil)
    (pss_cons (ps_set (i := 4) nd rfl (.inl rfl) (C8.pe_c cF hr (Nat.le_refl _) (by rfl) (pa_cons (pv 0) (pa_cons (pv 1) (pa_cons (pe_op op_sub (pv 2) pe_int) pa_nil)))))
    (pss_one (ps_ret (pe_tup (pa_cons (pe_ix ix_tup (pe_tup (pa_cons pe_str (pa_cons pe_str (pa_cons pe_str pa_nil)))) (pe_op op_sub (pv 3) pe_int) (fun _ _ => rfl)) (pa_cons (pv 4) (pa_cons (C8.pe_c cF hr (Nat.le_refl _) (by rfl) (pa_cons (pv 0) (pa_cons (pv 1) (pa_cons (pe_op op_sub (pv 2) pe_int) pa_nil)))) pa_nil))))))))), ?_⟩
  refine ⟨_, rfl, b, l, 6, rfl, hB, by decide, by decide, fun wy H1 y0 y6 k1 B1 => ?_⟩
  have hdp : dp.toNat = (dp.toNat - 1) + 1 := by omega
  have hole : ∀ c, c ∈ hs3 → okF ws hs3 dp.toNat (.hole c) := by
    intro c hc
    rw [hdp]
    exact hc
  refine ⟨_, rfl, rfl, _, rfl, ite2 (fun _ => ?_) (fun c0 => ?_)⟩
  · refine ⟨_, rfl, (by show 3 ≤ sizeLine; decide), fun p np => ?_⟩
    have np' := B1.new np
    have g1 := same_new np (.lst [.str "a", .str "b", .str "c"])
    refine ⟨b, l, .ref p, _, rfl, B1.kp g1, .inr ⟨p, rfl, np'.1, .inl (SqL.of upd_same)⟩, by decide, by decide, fun i v H2 hv k2 B2 => ?_⟩
    have hc : ∃ c ∈ hs3, v = .str (SX.S c) := by
      have hm := List.mem_of_getElem? hv
      simp only [List.mem_cons, List.not_mem_nil, or_false] at hm
      rcases hm with rfl | rfl | rfl
      · exact ⟨[97], by decide, rfl⟩
      · exact ⟨[98], by decide, rfl⟩
      · exact ⟨[99], by decide, rfl⟩
    obtain ⟨c, hc, rfl⟩ := hc
    refine ⟨(by show 2 ≤ sizeLine; decide), fun r nr => ?_⟩
    exact q _ (.hole c) _ (hole c hc) (mk_hole (SqT.of upd_same)) ((k1.trans (.of g1)).trans (k2.trans (.of (same_new nr _)))) (B2.kp (same_new nr _))
  have hw0 : wy ≠ 0 := fun z => c0 (decide_eq_true (by rw [z]))
  refine ⟨_, rfl, _, _, rfl, rfl, _, rfl, ?_⟩
  by_cases hl : dp < 2 ∨ wy < 3
  · by_cases h1 : dp < 2
    all_goals first | refine iteU (decide_eq_true h1) ?_ | refine iteE (decide_eq_false h1) ⟨_, rfl, _, _, rfl, rfl, _, rfl, iteU (decide_eq_true (by omega)) ?_⟩
    all_goals
      refine ⟨_, rfl, b, l, 3, rfl, B1, by decide, by decide, fun d3 H2 _ _ k2 B2 => ⟨rfl, _, rfl, ite2 (fun _ => ?_) (fun _ => ?_)⟩⟩
      · refine ⟨_, rfl, (by show 2 ≤ sizeLine; decide), fun p np => ?_⟩
        have np' := B2.new np
        have g1 := same_new np (.lst [.str "a", .str "b"])
        refine ⟨b, l, .ref p, _, rfl, B2.kp g1, .inr ⟨p, rfl, np'.1, .inl (SqL.of upd_same)⟩, by decide, by decide, fun i v H3 hv k3 B3 => ?_⟩
        have hc : ∃ c ∈ hs3, v = .str (SX.S c) := by
          have hm := List.mem_of_getElem? hv
          simp only [List.mem_cons, List.not_mem_nil, or_false] at hm
          rcases hm with rfl | rfl
          · exact ⟨[97], by decide, rfl⟩
          · exact ⟨[98], by decide, rfl⟩
        obtain ⟨c, hc, rfl⟩ := hc
        refine ⟨(by show 2 ≤ sizeLine; decide), fun r nr => ?_⟩
        exact q _ (.hole c) _ (hole c hc) (mk_hole (SqT.of upd_same)) (((k1.trans k2).trans (.of g1)).trans (k3.trans (.of (same_new nr _)))) (B3.kp (same_new nr _))
      · have k12 := k1.trans k2
        refine ⟨_, rfl, _, rfl, b, l, wa, ws, 1, rfl, B2, k12.seqL nwb hw, nwb, w0, w1, by decide, by decide, fun v t H3 o3 f3 k3 B3 => ?_⟩
        exact q v t H3 ((o3.holes (fun c h => by cases h)).le (by show 1 ≤ dp.toNat; omega)) f3 (k12.trans k3) B3
  · have h1 : ¬ dp < 2 := fun z => hl (.inl z)
    have h2 : ¬ wy < 3 := fun z => hl (.inr z)
    refine iteE (decide_eq_false h1) ⟨_, rfl, _, _, rfl, rfl, _, rfl, iteE (decide_eq_false h2) ?_⟩
    refine ⟨_, rfl, _, rfl, _, rfl, _, _, rfl, rfl, b, l, wa, ws, dp - 1, rfl, B1, k1.seqL nwb hw, nwb, w0, w1, by omega, by omega, fun v1 t1 H2 o1 f1 k2 B2 => ?_⟩
    refine ⟨(by show 3 ≤ sizeLine; decide), fun p np => ?_⟩
    have g1 := same_new np (.tup [.str "then", .str "and", .str "or"])
    have B3 := B2.kp g1
    have k12 := k1.trans k2
    have hy3 : (wy - 3).toNat < 3 := by omega
    generalize hj : (⟨(wy - 3).toNat, hy3⟩ : Fin 3) = j
    have hy : wy - 3 = ((j.val : Nat) : Int) := by rw [← hj]; show wy - 3 = (((wy - 3).toNat : Nat) : Int); omega
    refine ⟨_, rfl, _, _, rfl, rfl, p, _, _, _, rfl, rfl, SqT.of upd_same, (by rw [hy]; exact atI_kd j), ?_⟩
    refine ⟨_, rfl, _, rfl, _, rfl, _, rfl, _, _, rfl, rfl, b, l, wa, ws, dp - 1, rfl, B3, g1.seq (k12.seqL nwb hw), nwb, w0, w1, by omega, by omega, fun v2 t2 H4 o2 f2 k4 B4 => ?_⟩
    refine ⟨(by show 3 ≤ sizeLine; decide), fun r nr => ?_⟩
    have g2 := same_new nr (.tup [.str (kd j), v1, v2])
    refine q _ (.bin j t1 t2) _ ?_ (mk_bin (SqT.of upd_same) (((f1.same g1).kp k4 B3).same g2) (f2.same g2)) ((k12.trans (.of g1)).trans (k4.trans (.of g2))) (B4.kp g2)
    rw [hdp]
    have e1 : (dp - 1).toNat = dp.toNat - 1 := by omega
    rw [e1] at o1 o2
    exact ⟨o1, o2⟩
theorem no_shape0 (vs : List V) (H : Hp) (Q : VK) (E : XK) : ¬ spShape K 0 vs H Q E := by
  rintro ⟨b, l, wa, ws, dp, _, _, _, _, _, _, h0, h1, _⟩
  omega
theorem shape_cal {f : Addr} {fd : FuncData} (F : Fun K "_law_shape" "_law_shape" s_law_shape f fd) (b : Binds K fd ["_law_bag_here", "_law_words", "_law_deep"] []) (m : mg "_law_shape" = some (.ref f)) (cP : C8.Cal P w K mg base 1 "_law_pull" spPull []) (cA : C8.Cal P w K mg base 2 "_law_any" (spAny K) []) (cM : C8.Cal P w K mg base 3 "_law_form" (spForm K 1) []) : ∀ n : Nat, C8.Cal P w K mg base (n + 3) "_law_shape" (spShape K n) []
  | 0 => ⟨f, fd, ["_law_bag_here", "_law_words", "_law_deep"], [], ⟨fun vs H Q E h => absurd h (no_shape0 vs H Q E), fun A outer s H args us vs Q E _ _ _ _ h => absurd h (no_shape0 vs H Q E)⟩, m, F.kp, b, .nil⟩
  | n + 1 => ⟨f, fd, ["_law_bag_here", "_law_words", "_law_deep"], [], ok_shape F cP cA cM (shape_cal F b m cP cA cM n), m, F.kp, b, .nil⟩
end

end Ag

namespace Ag
open PySem PySem.Spec PyProof.Rows L2
section
variable {P : Program} {w : World} {K : PySem.W.Frag} {mg : Str → Option Value} {base : Heap}
/-! ### _law_match -/
def spMatch (K : PySem.W.Frag) (n : Nat) : Sp := fun vs H Q _ => ∃ (x y : V) (T : Addr) (s f : Fm) (m : Tab) (ws hs : List (List Nat)) (N : Nat), vs = [x, y, .ref T] ∧ Fr K H x s ∧ Fr K H y f ∧ TabAt K H T m ∧ Setting ws hs N ∧ okF ws hs n s ∧ n ≤ 60 ∧ okF ws [] N f ∧ TOk ws hs N m ∧
  ∀ (r : V) (H' : Hp), Same H H' → (match mt s f m with | none => r = .non | some m' => ∃ T', r = .ref T' ∧ TabAt K H' T' m') → Q r H'
abbrev nMatch : List Str := ["_law_shape_z", "_law_formula_z", "_law_table", "_law_late", "_law_one"]
theorem scMatch : FnScope nMatch ["_law_shape_z", "_law_formula_z", "_law_table"] (defScope s_law_match) := ⟨rfl, rfl, rfl, by decide +kernel, rfl, by decide +kernel, by decide +kernel⟩
theorem ok_match {n : Nat} {f : Addr} {fd : FuncData} (F : Fun K "_law_match" "_law_match" s_law_match f fd) (md : mg "dict" = none) (cM : C8.Cal P w K mg base n "_law_match" (spMatch K n) []) :
    FnOk P w K mg base CX0 (n + 1) f fd ["_law_shape_z", "_law_formula_z", "_law_table"] (spMatch K (n + 1)) := by
  refine F.ok scMatch (fun vs H Q E h => ?_) (fun cdv A outer s H vs Q E hr h => ?_)
  · obtain ⟨x, y, T, s, f, m, ws, hs, N, rfl, _⟩ := h
    rfl
  obtain ⟨x, y, T, s, f, m, ws, hs, N, rfl, hx, hy, hT, G, hs1, hn, hf1, hm, q⟩ := h
  have nd := scMatch.nd
  have hu := hu_of hr
  refine ⟨_, pss_cons (ps_if (pt_cmpR op_eq (pe_ix ix_tup (pv 0) pe_int (fun _ _ => rfl)) pe_str (nomark _))
      (pss_cons (ps_if (pt_cmp (pc_din hu (pe_ix ix_tup (pv 0) pe_int (fun _ _ => rfl)) (pv 2))) (pss_one (ps_ret (pe_ifExp (pt_cmpR (op_eqD hr.units) (pe_dget hu (pv 2) (pe_ix ix_tup (pv 0) pe_int (fun _ _ => rfl)) (fun _ _ => rfl)) (pv 1) (nomark _)) (pv 2) pe_non))) pss_nil)
      (pss_cons (ps_set (i := 3) nd rfl (.inl rfl) (pe_callTy call_dictD (by rfl) md (by decide +kernel) (pa_cons (pv 2) pa_nil)))
      (pss_cons (ps_dput hu (pv 3) (pe_ix ix_tup (pv 0) pe_int (fun _ _ => rfl)) (pv 1) rfl)
      (pss_one (ps_ret (pv 3)))))) pss_nil)
    (pss_cons (ps_if (pt_cmpR op_ne (pe_ix ix_tup (pv 0) pe_int (fun _ _ => rfl)) (pe_ix ix_tup (pv 1) pe_int (fun _ _ => rfl)) (nomark _)) (pss_one (ps_ret pe_non)) pss_nil)
    (pss_cons (ps_if (pt_cmpR op_notIn_seq (pe_ix ix_tup (pv 0) pe_int (fun _ _ => rfl)) (pe_tup (pa_cons pe_str (pa_cons pe_str (pa_cons pe_str pa_nil)))) (by with_unfolding_all rfl)) (pss_one (ps_ret (pe_ifExp (pt_cmpR (op_eqD hr.units) (pv 0) (pv 1) (nomark _)) (pv 2) pe_non))) pss_nil)
    (pss_cons (ps_set (i := 4) nd rfl (.inl rfl) (C8.pe_c cM hr (Nat.le_refl _) (by rfl) (pa_cons (pe_ix ix_tup (pv 0) pe_int (fun _ _ => rfl)) (pa_cons (pe_ix ix_tup (pv 1) pe_int (fun _ _ => rfl)) (pa_cons (pv 2) pa_nil)))))
    (pss_one (ps_ret (pe_ifExp (pt_cmp (pc_isN (pv 4)) rfl) pe_non (C8.pe_c cM hr (Nat.le_refl _) (by rfl) (pa_cons (pe_ix ix_tup (pv 0) pe_int (fun _ _ => rfl)) (pa_cons (pe_ix ix_tup (pv 1) pe_int (fun _ _ => rfl)) (pa_cons (pv 4) pa_nil)))))))))), ?_⟩
  obtain ⟨kvs, hT1, hT2⟩ := id hT
  have shf := ok_shaped G.lw (hs := []) (fun c h => (by cases h)) hf1 (by have := G.n; omega)
  cases s with
  | hole c =>
    obtain ⟨p, rfl, sp⟩ := fr_hole hx
    have hc : c ∈ hs := hs1
    refine ⟨_, rfl, p, _, _, _, rfl, rfl, sp, rfl, rfl, _, rfl, iteU (decide_eq_true rfl) ?_⟩
    refine ⟨_, rfl, p, _, _, _, rfl, rfl, sp, rfl, _, rfl, T, _, rfl, DGet.k (k := Sum.inr (SX.S c)) hT1, _, rfl, ?_⟩
    cases e : tg m c with
    | some g =>
      obtain ⟨v, ev, fv⟩ := tab_some hT2 e
      rw [ev]
      refine iteT ?_
      have hg := (hm.2 _ (tg_mem e)).2
      have shg := ok_shaped G.lw (hs := []) (fun c h => (by cases h)) hg (by have := G.n; omega)
      refine ⟨_, rfl, _, rfl, p, _, _, _, rfl, rfl, sp, rfl, T, v, rfl, by have z := DGet.k (k := Sum.inr (SX.S c)) hT1; rw [ev] at z; exact z, _, rfl, g.dat, f.dat, fv, hy, shg, shf, _, rfl, ?_⟩
      rw [eqv_dat]
      refine ite2 (fun c1 => ?_) (fun c1 => ?_)
      · have em : mt (.hole c) f m = some m := by
          simp only [mt, e]
          rw [if_pos (of_decide_eq_true c1)]
        refine ⟨_, rfl, q _ _ (.refl _) ?_⟩
        rw [em]
        exact ⟨T, rfl, hT⟩
      · have em : mt (.hole c) f m = none := by
          simp only [mt, e]
          rw [if_neg (fun z => c1 (decide_eq_true z))]
        refine q _ _ (.refl _) ?_
        rw [em]
    | none =>
      have ev := tab_none hT2 e
      rw [ev]
      refine iteF ?_
      refine ⟨_, rfl, T, kvs, rfl, .inl hT1, fun D nD => ?_⟩
      have lm : m.length ≤ 900 := by
        have z := nodup_le (k := hs) hm.1 fun x hx => by
          obtain ⟨e, he, rfl⟩ := List.mem_map.mp hx
          exact (hm.2 e he).1
        rw [List.length_map] at z
        have := G.len
        omega
      have lk : kvs.length = m.length := Paired.length hT2
      refine ⟨_, rfl, _, rfl, _, rfl, p, _, _, _, rfl, rfl, (sameT (same_new nD _) sp), rfl, D, _, rfl, DPut.k (k := Sum.inr (SX.S c)) upd_same (small1000 (by omega)), ?_⟩
      refine ⟨_, rfl, ?_⟩
      rw [upd_upd]
      have g1 := same_new nD (.dK (putK kvs (Sum.inr (SX.S c)) y))
      have em : mt (.hole c) f m = some (m ++ [(c, f)]) := by
        simp only [mt, e]
      refine q _ _ g1 ?_
      rw [em]
      refine ⟨D, rfl, _, upd_same, ?_⟩
      have ek := putK_new y ev
      rw [ek] at g1 ⊢
      exact paired_snoc (tab_same g1 hT2) ⟨rfl, hy.same g1⟩
  | fls =>
    obtain ⟨p, rfl, sp⟩ := fr_fls hx
    obtain ⟨p2, r2, rfl, sp2⟩ := fr_head hy
    refine ⟨_, rfl, p, _, _, _, rfl, rfl, sp, rfl, rfl, _, rfl, iteE (decide_eq_false (by decide)) ?_⟩
    refine ⟨_, rfl, p, _, _, _, rfl, rfl, sp, rfl, _, rfl, p2, _, _, _, rfl, rfl, sp2, at_head, rfl, _, rfl, ?_⟩
    by_cases hh : V.str "false" = .str (hd0 f)
    · refine iteE (by rw [decide_eq_true hh]; rfl) ?_
      refine ⟨_, rfl, p, _, _, _, rfl, rfl, sp, rfl, (by show 3 ≤ sizeLine; decide), fun t3 n3 => ?_⟩
      have g3 := same_new n3 (.tup [.str "then", .str "and", .str "or"])
      refine ⟨t3, _, rfl, .inr (SqT.of upd_same), rfl, rfl, _, rfl, iteU (by decide +kernel) ?_⟩
      have shs := ok_shaped G.lw G.lh hs1 (by omega)
      refine ⟨_, rfl, _, rfl, _, f.dat, (hx.same g3), (hy.same g3), shs, shf, _, rfl, ?_⟩
      rw [eqv_dat]
      refine ite2 (fun c1 => ?_) (fun c1 => ?_)
      · have em : mt .fls f m = some m := by
          simp only [mt]
          rw [if_pos (of_decide_eq_true c1)]
        refine ⟨_, rfl, q _ _ g3 ?_⟩
        rw [em]
        exact ⟨T, rfl, hT.same g3⟩
      · have em : mt .fls f m = none := by
          simp only [mt]
          rw [if_neg (fun z => c1 (decide_eq_true z))]
        refine q _ _ g3 ?_
        rw [em]
    · refine iteU (by rw [decide_eq_false hh]; rfl) ?_
      have em : mt .fls f m = none := by
        simp only [mt]
        rw [if_neg]
        intro z
        exact hh (by rw [← z]; rfl)
      refine q _ _ (.refl _) ?_
      rw [em]
  | atom u =>
    obtain ⟨p, rfl, sp⟩ := fr_atom hx
    obtain ⟨p2, r2, rfl, sp2⟩ := fr_head hy
    refine ⟨_, rfl, p, _, _, _, rfl, rfl, sp, rfl, rfl, _, rfl, iteE (decide_eq_false (by decide)) ?_⟩
    refine ⟨_, rfl, p, _, _, _, rfl, rfl, sp, rfl, _, rfl, p2, _, _, _, rfl, rfl, sp2, at_head, rfl, _, rfl, ?_⟩
    by_cases hh : V.str "atom" = .str (hd0 f)
    · refine iteE (by rw [decide_eq_true hh]; rfl) ?_
      refine ⟨_, rfl, p, _, _, _, rfl, rfl, sp, rfl, (by show 3 ≤ sizeLine; decide), fun t3 n3 => ?_⟩
      have g3 := same_new n3 (.tup [.str "then", .str "and", .str "or"])
      refine ⟨t3, _, rfl, .inr (SqT.of upd_same), rfl, rfl, _, rfl, iteU (by decide +kernel) ?_⟩
      have shs := ok_shaped G.lw G.lh hs1 (by omega)
      refine ⟨_, rfl, _, rfl, _, f.dat, (hx.same g3), (hy.same g3), shs, shf, _, rfl, ?_⟩
      rw [eqv_dat]
      refine ite2 (fun c1 => ?_) (fun c1 => ?_)
      · have em : mt (.atom u) f m = some m := by
          simp only [mt]
          rw [if_pos (of_decide_eq_true c1)]
        refine ⟨_, rfl, q _ _ g3 ?_⟩
        rw [em]
        exact ⟨T, rfl, hT.same g3⟩
      · have em : mt (.atom u) f m = none := by
          simp only [mt]
          rw [if_neg (fun z => c1 (decide_eq_true z))]
        refine q _ _ g3 ?_
        rw [em]
    · refine iteU (by rw [decide_eq_false hh]; rfl) ?_
      have em : mt (.atom u) f m = none := by
        simp only [mt]
        rw [if_neg]
        intro z
        exact hh (by rw [← z]; rfl)
      refine q _ _ (.refl _) ?_
      rw [em]
  | bin k a b =>
    obtain ⟨p, xa, xb, rfl, sp, fa, fb⟩ := fr_bin hx
    obtain ⟨p2, r2, rfl, sp2⟩ := fr_head hy
    refine ⟨_, rfl, p, _, _, _, rfl, rfl, sp, rfl, rfl, _, rfl, iteE (decide_eq_false (fun z => kd_hole (V.str.inj z))) ?_⟩
    refine ⟨_, rfl, p, _, _, _, rfl, rfl, sp, rfl, _, rfl, p2, _, _, _, rfl, rfl, sp2, at_head, rfl, _, rfl, ?_⟩
    by_cases hh : V.str (kd k) = .str (hd0 f)
    · refine iteE (by rw [decide_eq_true hh]; rfl) ?_
      have hf : ∃ c d, f = .bin k c d := by
        have z := V.str.inj hh
        cases f with
        | fls => exact absurd z kd_false
        | atom u => exact absurd z kd_atom
        | hole u => exact absurd z kd_hole
        | bin j c d => exact ⟨c, d, by rw [kd_inj z]⟩
      obtain ⟨c, d, rfl⟩ := hf
      obtain ⟨p3, xc, xd, e3, sp3, fc, fd'⟩ := fr_bin hy
      cases e3
      refine ⟨_, rfl, p, _, _, _, rfl, rfl, sp, rfl, (by show 3 ≤ sizeLine; decide), fun t3 n3 => ?_⟩
      have g3 := same_new n3 (.tup [.str "then", .str "and", .str "or"])
      refine ⟨t3, _, rfl, .inr (SqT.of upd_same), rfl, rfl, _, rfl, iteE (in_kd k) ?_⟩
      cases N with
      | zero => exact hf1.elim
      | succ N' =>
      refine ⟨_, rfl, p, _, _, _, rfl, rfl, sameT g3 sp, rfl, _, rfl, p2, _, _, _, rfl, rfl, sameT g3 sp3, rfl, _, rfl, xa, xc, T, a, c, m, ws, hs, N' + 1, rfl, fa.same g3, fc.same g3, hT.same g3, G, hs1.1, by omega, hf1.1.up, hm, fun r1 H1 g4 hr1 => ?_⟩
      have g34 := g3.trans g4
      refine ⟨_, rfl, ?_⟩
      cases e1 : mt a c m with
      | none =>
        rw [e1] at hr1
        subst hr1
        have em : mt (.bin k a b) (.bin k c d) m = none := by
          simp only [mt]
          rw [if_pos trivial, e1]
        refine ⟨_, rfl, iteU rfl ?_⟩
        refine q _ _ g34 ?_
        rw [em]
      | some m1 =>
        rw [e1] at hr1
        obtain ⟨T1, rfl, hT1'⟩ := hr1
        refine ⟨_, rfl, iteE rfl ?_⟩
        refine ⟨_, rfl, p, _, _, _, rfl, rfl, sameT g34 sp, rfl, _, rfl, p2, _, _, _, rfl, rfl, sameT g34 sp3, rfl, _, rfl, xb, xd, T1, b, d, m1, ws, hs, N' + 1, rfl, fb.same g34, fd'.same g34, hT1', G, hs1.2, by omega, hf1.2.up, mt_tok e1 hm hs1.1 hf1.1.up, fun r2 H2 g5 hr2 => ?_⟩
        have em : mt (.bin k a b) (.bin k c d) m = mt b d m1 := by
          simp only [mt]
          rw [if_pos trivial, e1]
        refine q _ _ (g34.trans g5) ?_
        rw [em]
        exact hr2
    · refine iteU (by rw [decide_eq_false hh]; rfl) ?_
      have em : mt (.bin k a b) f m = none := by
        cases f with
        | bin j c d =>
          simp only [mt]
          rw [if_neg]
          intro z
          exact hh (by rw [z]; rfl)
        | _ => rfl
      refine q _ _ (.refl _) ?_
      rw [em]
theorem no_match0 (vs : List V) (H : Hp) (Q : VK) (E : XK) : ¬ spMatch K 0 vs H Q E := by
  rintro ⟨x, y, T, s, f, m, ws, hs, N, _, _, _, _, _, h, _⟩
  exact h
theorem match_cal {f : Addr} {fd : FuncData} (F : Fun K "_law_match" "_law_match" s_law_match f fd) (b : Binds K fd ["_law_shape_z", "_law_formula_z", "_law_table"] []) (m : mg "_law_match" = some (.ref f)) (md : mg "dict" = none) : ∀ n : Nat, C8.Cal P w K mg base n "_law_match" (spMatch K n) []
  | 0 => ⟨f, fd, _, [], ⟨fun vs H Q E h => absurd h (no_match0 vs H Q E), fun A outer s H args us vs Q E _ _ _ _ h => absurd h (no_match0 vs H Q E)⟩, m, F.kp, b, .nil⟩
  | n + 1 => ⟨f, fd, _, [], ok_match F md (match_cal F b m md n), m, F.kp, b, .nil⟩
end

section
variable {P : Program} {w : World} {K : PySem.W.Frag} {mg : Str → Option Value} {base : Heap}
/-! ### _law_put: the holes filled by a table -/
def spPut (K : PySem.W.Frag) (n : Nat) : Sp := fun vs H Q _ => ∃ (x : V) (T : Addr) (s : Fm) (m : Tab) (ws hs : List (List Nat)), vs = [x, .ref T, .str "hole"] ∧ Fr K H x s ∧ TabAt K H T m ∧ okF ws hs n s ∧
  ∀ (r : V) (H' : Hp), Same H H' → Fr K H' r (pt m s) → Q r H'
abbrev nPut : List Str := ["_law_term", "_law_table", "_law_word"]
theorem scPut : FnScope nPut ["_law_term", "_law_table", "_law_word"] (defScope s_law_put) := ⟨rfl, rfl, rfl, by decide +kernel, rfl, by decide +kernel, by decide +kernel⟩
theorem ok_put {n : Nat} {f : Addr} {fd : FuncData} (F : Fun K "_law_put" "_law_put" s_law_put f fd) (cU : C8.Cal P w K mg base n "_law_put" (spPut K n) []) :
    FnOk P w K mg base CX0 (n + 1) f fd ["_law_term", "_law_table", "_law_word"] (spPut K (n + 1)) := by
  refine F.ok scPut (fun vs H Q E h => ?_) (fun cdv A outer s H vs Q E hr h => ?_)
  · obtain ⟨x, T, s, m, ws, hs, rfl, _⟩ := h
    rfl
  obtain ⟨x, T, s, m, ws, hs, rfl, hx, hT, hs1, q⟩ := h
  have nd := scPut.nd
  have hu := hu_of hr
  refine ⟨_, pss_cons (ps_if (pt_cmpR op_eq (pe_ix ix_tup (pv 0) pe_int (fun _ _ => rfl)) (pv 2) (nomark _)) (pss_one (ps_ret (pe_dget2 hu (pv 1) (pe_ix ix_tup (pv 0) pe_int (fun _ _ => rfl)) (pv 0) ⟨rfl, rfl, rfl, rfl⟩))) pss_nil)
    (pss_cons (ps_if (pt_cmpR op_in_seq (pe_ix ix_tup (pv 0) pe_int (fun _ _ => rfl)) (pe_tup (pa_cons pe_str (pa_cons pe_str (pa_cons pe_str pa_nil)))) (by with_unfolding_all rfl))
      (pss_one (ps_ret (pe_tup (pa_cons (pe_ix ix_tup (pv 0) pe_int (fun _ _ => rfl)) (pa_cons (C8.pe_c cU hr (Nat.le_refl _) (by rfl) (pa_cons (pe_ix ix_tup (pv 0) pe_int (fun _ _ => rfl)) (pa_cons (pv 1) (pa_cons (pv 2) pa_nil)))) (pa_cons (C8.pe_c cU hr (Nat.le_refl _) (by rfl) (pa_cons (pe_ix ix_tup (pv 0) pe_int (fun _ _ => rfl)) (pa_cons (pv 1) (pa_cons (pv 2) pa_nil)))) pa_nil)))))) pss_nil)
    (pss_one (ps_ret (pv 0)))), ?_⟩
  obtain ⟨kvs, hT1, hT2⟩ := id hT
  cases s with
  | hole c =>
    obtain ⟨p, rfl, sp⟩ := fr_hole hx
    refine ⟨_, rfl, p, _, _, _, rfl, rfl, sp, rfl, _, rfl, rfl, _, rfl, iteU (decide_eq_true rfl) ?_⟩
    refine ⟨_, rfl, T, rfl, .inl ⟨kvs, .inl hT1⟩, _, rfl, p, _, _, _, rfl, rfl, sp, rfl, _, rfl, _, DGet.k (k := Sum.inr (SX.S c)) hT1, ?_⟩
    refine q _ _ (.refl _) ?_
    show Fr K H _ ((tg m c).getD (.hole c))
    cases e : tg m c with
    | none =>
      rw [tab_none hT2 e]
      exact hx
    | some t =>
      obtain ⟨v, h1, h2⟩ := tab_some hT2 e
      rw [h1]
      exact h2
  | fls =>
    obtain ⟨p, rfl, sp⟩ := fr_fls hx
    refine ⟨_, rfl, p, _, _, _, rfl, rfl, sp, rfl, _, rfl, rfl, _, rfl, iteE (decide_eq_false (by decide)) ?_⟩
    refine ⟨_, rfl, p, _, _, _, rfl, rfl, sp, rfl, (by show 3 ≤ sizeLine; decide), fun t3 n3 => ?_⟩
    refine ⟨t3, _, rfl, .inr (SqT.of upd_same), rfl, rfl, _, rfl, iteE (by decide +kernel) ⟨_, rfl, ?_⟩⟩
    exact q _ _ (same_new n3 _) (hx.same (same_new n3 _))
  | atom u =>
    obtain ⟨p, rfl, sp⟩ := fr_atom hx
    refine ⟨_, rfl, p, _, _, _, rfl, rfl, sp, rfl, _, rfl, rfl, _, rfl, iteE (decide_eq_false (by decide)) ?_⟩
    refine ⟨_, rfl, p, _, _, _, rfl, rfl, sp, rfl, (by show 3 ≤ sizeLine; decide), fun t3 n3 => ?_⟩
    refine ⟨t3, _, rfl, .inr (SqT.of upd_same), rfl, rfl, _, rfl, iteE (by decide +kernel) ⟨_, rfl, ?_⟩⟩
    exact q _ _ (same_new n3 _) (hx.same (same_new n3 _))
  | bin k a b =>
    obtain ⟨p, xa, xb, rfl, sp, fa, fb⟩ := fr_bin hx
    refine ⟨_, rfl, p, _, _, _, rfl, rfl, sp, rfl, _, rfl, rfl, _, rfl, iteE (decide_eq_false (fun z => kd_hole (V.str.inj z))) ?_⟩
    refine ⟨_, rfl, p, _, _, _, rfl, rfl, sp, rfl, (by show 3 ≤ sizeLine; decide), fun t3 n3 => ?_⟩
    have g3 := same_new n3 (.tup [.str "then", .str "and", .str "or"])
    refine ⟨t3, _, rfl, .inr (SqT.of upd_same), rfl, rfl, _, rfl, iteU (kd_in k) ?_⟩
    refine ⟨_, rfl, p, _, _, _, rfl, rfl, sameT g3 sp, rfl, _, rfl, p, _, _, _, rfl, rfl, sameT g3 sp, rfl, _, rfl, _, rfl, xa, T, a, m, ws, hs, rfl, fa.same g3, hT.same g3, hs1.1, fun r1 H1 g4 f1 => ?_⟩
    have g34 := g3.trans g4
    refine ⟨_, rfl, p, _, _, _, rfl, rfl, sameT g34 sp, rfl, _, rfl, _, rfl, xb, T, b, m, ws, hs, rfl, fb.same g34, hT.same g34, hs1.2, fun r2 H2 g5 f2 => ?_⟩
    refine ⟨(by show 3 ≤ sizeLine; decide), fun r nr => ?_⟩
    have g6 := same_new nr (.tup [.str (kd k), r1, r2])
    exact q _ _ (g34.trans (g5.trans g6)) (mk_bin (SqT.of upd_same) (f1.same (g5.trans g6)) (f2.same g6))
theorem no_put0 (vs : List V) (H : Hp) (Q : VK) (E : XK) : ¬ spPut K 0 vs H Q E := by
  rintro ⟨x, T, s, m, ws, hs, _, _, _, h, _⟩
  exact h
theorem put_cal {f : Addr} {fd : FuncData} (F : Fun K "_law_put" "_law_put" s_law_put f fd) (b : Binds K fd ["_law_term", "_law_table", "_law_word"] []) (m : mg "_law_put" = some (.ref f)) : ∀ n : Nat, C8.Cal P w K mg base n "_law_put" (spPut K n) []
  | 0 => ⟨f, fd, _, [], ⟨fun vs H Q E h => absurd h (no_put0 vs H Q E), fun A outer s H args us vs Q E _ _ _ _ h => absurd h (no_put0 vs H Q E)⟩, m, F.kp, b, .nil⟩
  | n + 1 => ⟨f, fd, _, [], ok_put F (put_cal F b m n), m, F.kp, b, .nil⟩
end

end Ag

namespace Ag
open PySem PySem.Spec PyProof.Rows L2
section
variable {P : Program} {w : World} {K : PySem.W.Frag} {mg : Str → Option Value} {base : Heap}
/-! ### holes_of -/
def spHoles (K : PySem.W.Frag) : Sp := fun vs H Q _ => ∃ (x y : V) (s f : Fm) (ws hs : List (List Nat)) (n N : Nat), vs = [x, y] ∧ Fr K H x s ∧ Fr K H y f ∧ Setting ws hs N ∧ okF ws hs n s ∧ n ≤ 60 ∧ okF ws [] N f ∧ sz s ≤ 900 ∧
  ∀ (r : V) (H' : Hp), Same H H' → (match hof s f with | none => r = .non | some m' => ∃ T', r = .ref T' ∧ TabAt K H' T' m') → Q r H'
abbrev nHoles : List Str := ["shape", "formula", "holes", "waiting", "part", "worth"]
theorem scHoles : FnScope nHoles ["shape", "formula"] (defScope s_holes_of) := ⟨rfl, rfl, rfl, by decide +kernel, rfl, by decide +kernel, by decide +kernel⟩
theorem ok_holes {f : Addr} {fd : FuncData} (F : Fun K "holes_of" "holes_of" s_holes_of f fd) (ml : mg "len" = none) : FnOk P w K mg base CX0 1 f fd ["shape", "formula"] (spHoles K) := by
  refine F.ok scHoles (fun vs H Q E h => ?_) (fun cdv A outer s H vs Q E hr h => ?_)
  · obtain ⟨x, y, s, f, ws, hs, n, N, rfl, _⟩ := h
    rfl
  obtain ⟨x, y, s, f, ws, hs, n, N, rfl, hx, hy, G, hs1, hn, hf1, hsz, q⟩ := h
  have nd := scHoles.nd
  refine ⟨_, pss_cons (ps_set (i := 2) nd rfl (.inl rfl) pe_dnewK)
    (pss_cons (ps_set (i := 3) nd rfl (.inl rfl) (pe_lst (pa_cons (pe_tup (pa_cons (pv 0) (pa_cons (pv 1) pa_nil))) pa_nil)))
    (pss_cons (ps_while PassesOwn.never (pt_truth (pv 3) (by intro _; rfl))
      (pss_cons (ps_asg (pe_bm0 PySem.F.plainAttrs_list PySem.F.slot_list_pop PySem.F.type_list_pop mt_pop (pv 3)) (pg_tup rfl (pgs_cons (pg_name (i := 4) nd rfl (.inl rfl)) (pgs_cons (pg_name (i := 5) nd rfl (.inl rfl)) pgs_nil))))
      (pss_one (ps_if (pt_cmpR op_eq (pe_ix ix_tup (pv 4) pe_int (fun _ _ => rfl)) pe_str (nomark _))
        (pss_one (ps_if (pt_cmpR (op_neD hr.units) (pe_dsetd (pv 2) (pe_ix ix_tup (pv 4) pe_int (fun _ _ => rfl)) (pv 5) ⟨rfl, rfl, rfl, rfl⟩) (pv 5) (nomark _)) (pss_one (ps_ret pe_non)) pss_nil))
        (pss_one (ps_if (pt_cmpR op_eq (pe_callB call_len_seq (by rfl) ml boot_len (pa_cons (pv 4) pa_nil)) pe_int (nomark _))
          (pss_cons (ps_if (pt_cmpR op_ne (pe_ix ix_tup (pv 4) pe_int (fun _ _ => rfl)) (pe_ix ix_tup (pv 5) pe_int (fun _ _ => rfl)) (nomark _)) (pss_one (ps_ret pe_non)) pss_nil)
          (pss_one (ps_expr (pe_bm PySem.F.plainAttrs_list PySem.F.slot_list_extend PySem.F.type_list_extend mt_extend (pv 3) (pa_cons (pe_lst (pa_cons (pe_tup (pa_cons (pe_ix ix_tup (pv 4) pe_int (fun _ _ => rfl)) (pa_cons (pe_ix ix_tup (pv 5) pe_int (fun _ _ => rfl)) pa_nil)))
            (pa_cons (pe_tup (pa_cons (pe_ix ix_tup (pv 4) pe_int (fun _ _ => rfl)) (pa_cons (pe_ix ix_tup (pv 5) pe_int (fun _ _ => rfl)) pa_nil))) pa_nil))) pa_nil)))))
          (pss_one (ps_if (pt_cmpR (op_neD hr.units) (pv 4) (pv 5) (nomark _)) (pss_one (ps_ret pe_non)) pss_nil))))))))
    (pss_one (ps_ret (pv 2))))), ?_⟩
  intro D nD
  have g1 := same_new nD (.dK [])
  refine ⟨_, rfl, _, rfl, (by show 2 ≤ sizeLine; decide), fun t nt => ⟨(by show 1 ≤ sizeLine; decide), fun Wt nW => ?_⟩⟩
  have g2 := same_new nt (.tup [x, y])
  have g3 := same_new nW (.lst [.ref t])
  have nDW : D ≠ Wt := ne_of_none ((g2) _ _ upd_same) nW
  have g123 := g1.trans (g2.trans g3)
  refine ⟨fun k σ H' => ∃ (l : List (Fm × Fm)) (m : Tab) (vs : List V) (kvs : List (Key × V)) (pv wv : Option V), k = tot l ∧ σ = [some x, some y, some (.ref D), some (.ref Wt), pv, wv] ∧ ho (tot l) l m = hof s f ∧ Same H H' ∧ H' D = some (.dK kvs) ∧ Paired (TR K H') kvs m ∧
    H' Wt = some (.lst vs) ∧ Stk K H' vs l ∧ TOk ws hs N m ∧ tot l ≤ 900 ∧ ∀ e ∈ l, okF ws hs n e.1 ∧ okF ws [] N e.2, ⟨sz s, [(s, f)], [], [.ref t], [], none, none, by simp [tot], rfl, by simp only [tot, Nat.add_zero]; rfl, g123, (g2.trans g3) _ _ upd_same, .nil, upd_same,
      .push (vs := []) .nil ⟨t, x, y, rfl, SqT.of (g3 _ _ upd_same), hx.same g123, hy.same g123⟩, ⟨List.nodup_nil, fun p hp => (by cases hp)⟩, by simp only [tot, Nat.add_zero]; exact hsz, fun e he => by rw [List.mem_singleton.mp he]; exact ⟨hs1, hf1⟩⟩, ?_⟩
  rintro k σ H' ⟨l, m, vs, kvs, pv0, wv0, rfl, rfl, hho, sH, hD, hkv, hW, hst, hm, h900, hok⟩
  have hmD : m.length ≤ 900 := by
    have z := nodup_le (k := hs) hm.1 fun x hx => by
      obtain ⟨e, he, rfl⟩ := List.mem_map.mp hx
      exact (hm.2 e he).1
    rw [List.length_map] at z
    have := G.len
    omega
  refine ⟨_, rfl, !vs.isEmpty, .inl ⟨vs, SqL.of hW, rfl⟩, ?_⟩
  cases hst with
  | nil =>
    refine iteE rfl ⟨_, rfl, ?_⟩
    have e : hof s f = some m := by rw [← hho]; rfl
    refine q _ _ sH ?_
    rw [e]
    exact ⟨D, rfl, kvs, hD, hkv⟩
  | @push vs v r e hst hp =>
    refine iteU (by simp) ?_
    refine ⟨_, fun _ _ z => z, ?_⟩
    obtain ⟨ep, ew⟩ := e
    obtain ⟨a, xp, xw, rfl, sa, fp, fw⟩ := hp
    have hDW : Wt ≠ D := nDW.symm
    have H0W : H Wt = none := (g1.trans g2).free nW
    refine ⟨_, rfl, .inl ⟨rfl, _, SqL.of hW⟩, Wt, _, .ref a, rfl, rfl, hW, last_at _ _, ?_⟩
    rw [List.dropLast_concat]
    have t1 : Tp H' (upd H' Wt (.lst vs)) := Tp.upd hW trivial
    have hD2 : (upd H' Wt (.lst vs)) D = some (.dK kvs) := by rw [upd_ne nDW]; exact hD
    have sH2 : Same H (upd H' Wt (.lst vs)) := fun c o hc => by
      rw [upd_ne (ne_of_none hc H0W)]
      exact sH _ _ hc
    have hW2 : (upd H' Wt (.lst vs)) Wt = some (.lst vs) := upd_same
    replace sa := t1.seq sa
    replace fp := fp.tp t1
    replace fw := fw.tp t1
    replace hst := hst.tp t1
    replace hkv := tab_tp t1 hkv
    generalize upd H' Wt (.lst vs) = H2 at sa fp fw hst hkv hD2 sH2 hW2 ⊢
    clear hD hW sH t1
    obtain ⟨okp, okw⟩ := hok (ep, ew) (by simp)
    have hokr : ∀ e ∈ r, okF ws hs n e.1 ∧ okF ws [] N e.2 := fun e he => hok e (List.mem_cons_of_mem _ he)
    have shw := ok_shaped G.lw (hs := []) (fun c h => (by cases h)) okw (by have := G.n; omega)
    have lkv : kvs.length = m.length := Paired.length hkv
    refine ⟨a, _, rfl, sa, rfl, xp, _, rfl, xw, _, rfl, rfl, ?_⟩
    cases ep with
    | hole c =>
      obtain ⟨p, rfl, sp⟩ := fr_hole fp
      have htt : tot ((.hole c, ew) :: r) = tot r + 1 := by simp only [tot, sz]; omega
      rw [htt] at hho h900
      refine ⟨_, rfl, p, _, _, _, rfl, rfl, sp, rfl, rfl, _, rfl, iteU (decide_eq_true rfl) ?_⟩
      refine ⟨_, rfl, D, rfl, .inl ⟨kvs, .inl hD2⟩, _, rfl, p, _, _, _, rfl, rfl, sp, rfl, _, rfl, kvs, Sum.inr (SX.S c), hD2, rfl, small1000 (by omega), fun v ev => ?_, fun ev => ?_⟩
      · cases e : tg m c with
        | none => rw [tab_none hkv e] at ev; cases ev
        | some g =>
          obtain ⟨v', ev', fv⟩ := tab_some hkv e
          rw [ev] at ev'
          cases ev'
          have shg := ok_shaped G.lw (hs := []) (fun c h => (by cases h)) (hm.2 _ (tg_mem e)).2 (by have := G.n; omega)
          refine ⟨_, rfl, g.dat, ew.dat, fv, fw, shg, shw, _, rfl, ?_⟩
          rw [eqv_dat]
          have eho : ho (tot r + 1) ((.hole c, ew) :: r) m = if g = ew then ho (tot r) r m else none := by simp only [ho, e]
          by_cases hg : g = ew
          · refine iteE (by rw [decide_eq_true hg]; rfl) ?_
            rw [eho, if_pos hg] at hho
            exact ⟨tot r, by rw [htt]; omega, r, m, vs, kvs, _, _, rfl, rfl, hho, sH2, hD2, hkv, hW2, hst, hm, by omega, hokr⟩
          · refine iteU (by rw [decide_eq_false hg]; rfl) ?_
            rw [eho, if_neg hg] at hho
            refine q _ _ sH2 ?_
            rw [← hho]
      · have e : tg m c = none := by
          cases e : tg m c with
          | none => rfl
          | some g =>
            obtain ⟨v', ev', _⟩ := tab_some hkv e
            rw [ev] at ev'
            cases ev'
        have t2 : Tp H2 (upd H2 D (.dK (putK kvs (Sum.inr (SX.S c)) xw))) := Tp.upd hD2 trivial
        refine ⟨_, rfl, ew.dat, ew.dat, fw.tp t2, fw.tp t2, shw, shw, _, rfl, ?_⟩
        rw [eqv_dat]
        refine iteE (by rw [decide_eq_true rfl]; rfl) ?_
        have eho : ho (tot r + 1) ((.hole c, ew) :: r) m = ho (tot r) r (m ++ [(c, ew)]) := by simp only [ho, e]
        rw [eho] at hho
        refine ⟨tot r, by rw [htt]; omega, r, m ++ [(c, ew)], vs, _, _, _, rfl, rfl, hho, fun b o hb => ?_, upd_same, ?_, by rw [upd_ne hDW]; exact hW2, hst.tp t2, ⟨hm.1.snoc e, fun q' hq => ?_⟩, by omega, hokr⟩
        · rw [upd_ne (ne_of_none hb nD)]
          exact sH2 _ _ hb
        · rw [putK_new _ ev] at t2 ⊢
          exact paired_snoc (tab_tp t2 hkv) ⟨rfl, fw.tp t2⟩
        · rcases List.mem_append.mp hq with z | z
          · exact hm.2 _ z
          · rw [List.mem_singleton.mp z]
            cases n with
            | zero => exact okp.elim
            | succ n' => exact ⟨okp, okw⟩
    | fls =>
      obtain ⟨p, rfl, sp⟩ := fr_fls fp
      have htt : tot ((.fls, ew) :: r) = tot r + 1 := by simp only [tot, sz]; omega
      rw [htt] at hho h900
      have shs := ok_shaped G.lw G.lh okp (by omega)
      refine ⟨_, rfl, p, _, _, _, rfl, rfl, sp, rfl, rfl, _, rfl, iteE (decide_eq_false (by decide)) ?_⟩
      refine ⟨_, rfl, p, _, rfl, .inr sp, rfl, _, rfl, iteE (by show decide (V.int _ = V.int 3) = false; exact decide_eq_false (fun z => by cases z)) ?_⟩
      refine ⟨_, rfl, _, rfl, _, ew.dat, fp, fw, shs, shw, _, rfl, ?_⟩
      rw [eqv_dat]
      have eho : ho (tot r + 1) ((.fls, ew) :: r) m = if Fm.fls = ew then ho (tot r) r m else none := by simp only [ho]
      by_cases hg : Fm.fls = ew
      · refine iteE (by rw [decide_eq_true hg]; rfl) ?_
        rw [eho, if_pos hg] at hho
        exact ⟨tot r, by rw [htt]; omega, r, m, vs, kvs, _, _, rfl, rfl, hho, sH2, hD2, hkv, hW2, hst, hm, by omega, hokr⟩
      · refine iteU (by rw [decide_eq_false hg]; rfl) ?_
        rw [eho, if_neg hg] at hho
        refine q _ _ sH2 ?_
        rw [← hho]
    | atom u =>
      obtain ⟨p, rfl, sp⟩ := fr_atom fp
      have htt : tot ((.atom u, ew) :: r) = tot r + 1 := by simp only [tot, sz]; omega
      rw [htt] at hho h900
      have shs := ok_shaped G.lw G.lh okp (by omega)
      refine ⟨_, rfl, p, _, _, _, rfl, rfl, sp, rfl, rfl, _, rfl, iteE (decide_eq_false (by decide)) ?_⟩
      refine ⟨_, rfl, p, _, rfl, .inr sp, rfl, _, rfl, iteE (by show decide (V.int _ = V.int 3) = false; exact decide_eq_false (fun z => by cases z)) ?_⟩
      refine ⟨_, rfl, _, rfl, _, ew.dat, fp, fw, shs, shw, _, rfl, ?_⟩
      rw [eqv_dat]
      have eho : ho (tot r + 1) ((.atom u, ew) :: r) m = if Fm.atom u = ew then ho (tot r) r m else none := by simp only [ho]
      by_cases hg : Fm.atom u = ew
      · refine iteE (by rw [decide_eq_true hg]; rfl) ?_
        rw [eho, if_pos hg] at hho
        exact ⟨tot r, by rw [htt]; omega, r, m, vs, kvs, _, _, rfl, rfl, hho, sH2, hD2, hkv, hW2, hst, hm, by omega, hokr⟩
      · refine iteU (by rw [decide_eq_false hg]; rfl) ?_
        rw [eho, if_neg hg] at hho
        refine q _ _ sH2 ?_
        rw [← hho]
    | bin k s1 s2 =>
      obtain ⟨p, xa, xb, rfl, sp, fa, fb⟩ := fr_bin fp
      obtain ⟨pw, rw', rfl, spw⟩ := fr_head fw
      have htt : tot ((.bin k s1 s2, ew) :: r) = (sz s1 + sz s2 + tot r) + 1 := by simp only [tot, sz]; omega
      rw [htt] at hho h900
      refine ⟨_, rfl, p, _, _, _, rfl, rfl, sp, rfl, rfl, _, rfl, iteE (decide_eq_false (fun z => kd_hole (V.str.inj z))) ?_⟩
      refine ⟨_, rfl, p, _, rfl, .inr sp, rfl, _, rfl, iteU (decide_eq_true rfl) ?_⟩
      refine ⟨_, rfl, p, _, _, _, rfl, rfl, sp, rfl, _, rfl, pw, _, _, _, rfl, rfl, spw, at_head, rfl, _, rfl, ?_⟩
      by_cases hh : V.str (kd k) = .str (hd0 ew)
      · refine iteE (by rw [decide_eq_true hh]; rfl) ?_
        have hf : ∃ c d, ew = .bin k c d := by
          have z := V.str.inj hh
          cases ew with
          | fls => exact absurd z kd_false
          | atom u => exact absurd z kd_atom
          | hole u => exact absurd z kd_hole
          | bin j c d => exact ⟨c, d, by rw [kd_inj z]⟩
        obtain ⟨c, d, rfl⟩ := hf
        obtain ⟨p3, xc, xd, e3, sp3, fc, fd'⟩ := fr_bin fw
        cases e3
        refine ⟨_, rfl, .inl ⟨rfl, _, SqL.of hW2⟩, _, rfl, p, _, _, _, rfl, rfl, sp, rfl, _, rfl, pw, _, _, _, rfl, rfl, sp3, rfl, (by show 2 ≤ sizeLine; decide), fun u1 nu1 => ?_⟩
        have h1 := same_new nu1 (.tup [xa, xc])
        refine ⟨_, rfl, p, _, _, _, rfl, rfl, sameT h1 sp, rfl, _, rfl, pw, _, _, _, rfl, rfl, sameT h1 sp3, rfl, (by show 2 ≤ sizeLine; decide), fun u2 nu2 => ?_⟩
        have h2 := same_new nu2 (.tup [xb, xd])
        refine ⟨(by show 2 ≤ sizeLine; decide), fun u3 nu3 => ?_⟩
        have h3 := same_new nu3 (.lst [.ref u1, .ref u2])
        have h123 := h1.trans (h2.trans h3)
        have lvs : vs.length ≤ 900 := by
          have z1 := hst.len
          have z2 := tot_len r
          omega
        refine ⟨Wt, u3, vs, [.ref u1, .ref u2], rfl, rfl, h123 _ _ hW2, upd_same, (by show vs.length + 2 ≤ sizeLine; exact small (by omega)), ?_⟩
        have t4 : Tp H2 (upd _ Wt (.lst (vs ++ [.ref u1, .ref u2]))) := (Tp.of h123).trans (Tp.upd (h123 _ _ hW2) trivial)
        have tu1 := (Tp.of (h2.trans h3)).trans (Tp.upd (o := .lst (vs ++ [.ref u1, .ref u2])) (h123 _ _ hW2) trivial)
        have tu2 := (Tp.of h3).trans (Tp.upd (o := .lst (vs ++ [.ref u1, .ref u2])) (h123 _ _ hW2) trivial)
        have e2 : vs ++ [V.ref u1, .ref u2] = (vs ++ [.ref u1]) ++ [.ref u2] := by simp
        have eho : ho ((sz s1 + sz s2 + tot r) + 1) ((.bin k s1 s2, .bin k c d) :: r) m = ho (sz s1 + sz s2 + tot r) ((s2, d) :: (s1, c) :: r) m := by
          simp only [ho]
          rw [if_pos trivial]
        rw [eho] at hho
        have htt2 : tot ((s2, d) :: (s1, c) :: r) = sz s1 + sz s2 + tot r := by simp only [tot]; omega
        refine ⟨tot ((s2, d) :: (s1, c) :: r), by rw [htt, htt2]; omega, (s2, d) :: (s1, c) :: r, m, _, kvs, _, _, rfl, rfl, by rw [htt2]; exact hho, fun b o hb => ?_, by rw [upd_ne nDW]; exact h123 _ _ hD2, tab_tp t4 hkv, upd_same, ?_, hm, by rw [htt2]; omega, fun e he => ?_⟩
        · rw [upd_ne (ne_of_none hb H0W)]
          exact h123 _ _ (sH2 _ _ hb)
        · rw [e2] at t4 tu1 tu2 ⊢
          refine .push (.push (hst.tp t4) ⟨u1, xa, xc, rfl, tu1.seq (SqT.of upd_same), fa.tp t4, fc.tp t4⟩) ⟨u2, xb, xd, rfl, tu2.seq (SqT.of upd_same), fb.tp t4, fd'.tp t4⟩
        · cases n with
          | zero => exact okp.elim
          | succ n' =>
          cases N with
          | zero => exact okw.elim
          | succ N' =>
          rcases List.mem_cons.mp he with rfl | he
          · exact ⟨okp.2.up, okw.2.up⟩
          rcases List.mem_cons.mp he with rfl | he
          · exact ⟨okp.1.up, okw.1.up⟩
          · exact hokr e he
      · refine iteU (by rw [decide_eq_false hh]; rfl) ?_
        have eho : ho ((sz s1 + sz s2 + tot r) + 1) ((.bin k s1 s2, ew) :: r) m = none := by
          cases ew with
          | bin j c d =>
            simp only [ho]
            rw [if_neg]
            intro z
            exact hh (by rw [z]; rfl)
          | _ => rfl
        rw [eho] at hho
        refine q _ _ sH2 ?_
        rw [← hho]
end

end Ag

namespace Ag
open PySem PySem.Spec PyProof.Rows L2
section
variable {P : Program} {w : World} {K : PySem.W.Frag} {mg : Str → Option Value} {base : Heap}
abbrev nLaw : List Str := ["_law_script", "_law_bag_here", "_law_words", "_law_turn", "_law_shape_z", "_law_table", "_law_letter", "_law_form_here", "_law_due"]
theorem scLaw : FnScope nLaw ["_law_script"] (defScope s_law) := ⟨rfl, rfl, rfl, by decide +kernel, rfl, by decide +kernel, by decide +kernel⟩
def spLaw (K : PySem.W.Frag) : Sp := fun vs H Q _ => ∃ (a : Addr) (ns : List Int), vs = [.ref a] ∧ SqL K H a (ns.map V.int) ∧ ns.length ≤ 63 ∧ ∀ H', Q (.bl true) H'
structure Cals (P : Program) (w : World) (K : PySem.W.Frag) (mg : Str → Option Value) (base : Heap) : Prop where
  bag : C8.Cal P w K mg base 1 "_law_bag" (spBag K) []
  pull : C8.Cal P w K mg base 1 "_law_pull" spPull []
  names : C8.Cal P w K mg base 3 "_law_names" spNames []
  like : ∀ n, C8.Cal P w K mg base n "_law_like" (spLike K n) []
  form : ∀ n, C8.Cal P w K mg base (n + 2) "_law_form" (spForm K n) []
  shape : ∀ n, C8.Cal P w K mg base (n + 3) "_law_shape" (spShape K n) []
  mat : ∀ n, C8.Cal P w K mg base n "_law_match" (spMatch K n) []
  put : ∀ n, C8.Cal P w K mg base n "_law_put" (spPut K n) []
  holes : C8.Cal P w K mg base 1 "holes_of" (spHoles K) []
theorem hs3_low : ∀ c ∈ hs3, Low c := by
  intro c hc
  simp only [hs3, List.mem_cons, List.not_mem_nil, or_false] at hc
  rcases hc with rfl | rfl | rfl <;> exact .one (by omega)
theorem ok_law {f fN : Addr} {fd fdN : FuncData} (F : Fun K "law" "law" s_law f fd) (c : Cals P w K mg base) (GN : FnOk P w K mg base CX0 1 fN fdN ["shape", "formula"] (spHoles K)) (mN : mg "holes_of" = some (.ref fN)) (kN : PySem.W.keepIn K (.ref fN) = true)
    (bN : KW0 fdN ["shape", "formula"] ["formula", "shape"] List.reverse List.reverse) (M : NamesM mg) : FnOk P w K mg base CX0 21 f fd ["_law_script"] (spLaw K) := by
  refine F.ok scLaw (fun vs H Q E h => ?_) (fun cdv A outer s H vs Q E hr h => ?_)
  · obtain ⟨a, ns, rfl, _⟩ := h
    rfl
  obtain ⟨a, ns, rfl, hS, h63, q⟩ := h
  have nd := scLaw.nd
  have hu := hu_of hr
  refine ⟨_, pss_cons (ps_set (i := 1) nd rfl (.inl rfl) (C8.pe_c c.bag hr (by decide) (by rfl) (pa_cons (pv 0) pa_nil)))
    (pss_cons (ps_set (i := 2) nd rfl (.inl rfl) (C8.pe_c c.names hr (by decide) (by rfl) (pa_cons (pv 1) (pa_cons pe_int pa_nil))))
    (pss_cons (ps_for PassesOwn.never rfl (pi_range1 (by rfl) M.range (pa_cons pe_int pa_nil)) (pg_name (i := 3) nd rfl (.inl rfl))
      (pss_cons (ps_par (i := 4) (j := 5) (by rfl) nd rfl rfl (by decide) rfl rfl (pa_cons (C8.pe_c (c.shape 4) hr (by decide) (by rfl) (pa_cons (pv 1) (pa_cons (pv 2) (pa_cons pe_int pa_nil)))) (pa_cons pe_dnewK pa_nil)) (by rfl))
      (pss_cons (ps_for PassesOwn.never rfl (pi_list (pe_lst (pa_cons pe_str (pa_cons pe_str (pa_cons pe_str pa_nil))))) (pg_name (i := 6) nd rfl (.inl rfl))
        (pss_one (ps_dput hu (pv 5) (pv 6) (C8.pe_c (c.form 2) hr (by decide) (by rfl) (pa_cons (pv 1) (pa_cons (pv 2) (pa_cons pe_int pa_nil)))) rfl)))
      (C8.pss_cut (ps_set (i := 7) nd rfl (.inl rfl) (pe_ifExp (pt_cmpR op_gt (C8.pe_c c.pull hr (by decide) (by rfl) (pa_cons (pv 1) (pa_cons pe_int pa_nil))) pe_int (nomark _)) (C8.pe_c (c.put 4) hr (by decide) (by rfl) (pa_cons (pv 4) (pa_cons (pv 5) (pa_cons pe_str pa_nil)))) (C8.pe_c (c.form 4) hr (by decide) (by rfl) (pa_cons (pv 1) (pa_cons (pv 2) (pa_cons pe_int pa_nil))))))
      (C8.pss_cut (ps_if (PW.pt (pw_and (pt_cmpR op_eq (C8.pe_c c.pull hr (by decide) (by rfl) (pa_cons (pv 1) (pa_cons pe_int pa_nil))) pe_int (nomark _)) (pw_and1 (pt_cmpR op_in_seq (pe_ix ix_tup (pv 7) pe_int (fun _ _ => rfl)) (pe_tup (pa_cons pe_str (pa_cons pe_str (pa_cons pe_str pa_nil)))) (by with_unfolding_all rfl)))))
        (pss_one (ps_set (i := 7) nd rfl (.inl rfl) (pe_tup (pa_cons (pe_ix ix_tup (pv 7) pe_int (fun _ _ => rfl)) (pa_cons (pe_ix ix_tup (pv 7) pe_int (fun _ _ => rfl)) (pa_cons (pe_ix ix_tup (pv 7) pe_int (fun _ _ => rfl)) pa_nil)))))) pss_nil)
      (pss_cons (ps_set (i := 8) nd rfl (.inl rfl) (C8.pe_c (c.mat 4) hr (by decide) (by rfl) (pa_cons (pv 4) (pa_cons (pv 7) (pa_cons pe_dnewK pa_nil)))))
      (pss_cons (ps_if (pt_not (pt_val (C8.pe_c (c.like 12) hr (by decide) (by rfl) (pa_cons (pe_lst (pa_cons (C8.pe_c c.holes hr (by decide) (by rfl) (pa_cons (pv 4) (pa_cons (pv 7) pa_nil))) (pa_cons (pe_callW GN (hr.mono (by decide)) (by rfl) mN kN bN pass0 (pk_cons (pv 7) (pk_cons (pv 4) pk_nil))) pa_nil))) (pa_cons (pe_lst (pa_cons (pv 8) (pa_cons (pv 8) pa_nil))) pa_nil))))) (pss_one (ps_ret pe_bl)) pss_nil)
      (C8.pss_cut (ps_if (PW.pt (pw_and (pt_cmp (pc_notN (pv 8)) rfl) (pw_and1 (pt_cmpR (op_neD hr.units) (C8.pe_c (c.put 4) hr (by decide) (by rfl) (pa_cons (pv 4) (pa_cons (C8.pe_c c.holes hr (by decide) (by rfl) (pa_cons (pv 4) (pa_cons (pv 7) pa_nil))) (pa_cons pe_str pa_nil)))) (pv 7) (nomark _))))) (pss_one (ps_ret pe_bl)) pss_nil)
      (pss_one (ps_if (pt_not (pt_val (C8.pe_c (c.like 12) hr (by decide) (by rfl) (pa_cons (C8.pe_c c.holes hr (by decide) (by rfl) (pa_cons (pv 7) (pa_cons (pv 7) pa_nil))) (pa_cons pe_dnewK pa_nil))))) (pss_one (ps_ret pe_bl)) pss_nil))))))))))
    (pss_one (ps_ret pe_bl)))), ?_⟩
  -- the bag, the words
  refine ⟨_, rfl, a, ns, rfl, hS, h63, fun b l H1 nb s1 B1 => ?_⟩
  refine ⟨_, rfl, b, l, 2, rfl, B1, by decide, fun wa ws H2 hN nwa k2 B2 hwa => ?_⟩
  have nwb := B1.new nwa
  have hlw : ∀ w ∈ ws, Low w := fun w hw => (hN.word w hw).1
  have hlen := hN.len
  have G : Setting ws hs3 60 := ⟨hlw, hs3_low, by decide, by decide⟩
  have G0 : Setting ws [] 60 := ⟨hlw, fun c h => (by cases h), by decide, by decide⟩
  refine ⟨8, rfl, by decide, by decide, for_range (lo := 0) (n := (8 : Int).toNat) (fun i σ H' => ∃ v3 v4 v5 v6 v7 v8 : Option V, σ = [some (.ref a), some (.ref b), some (.ref wa), v3, v4, v5, v6, v7, v8] ∧ Kp b H2 H' ∧ Bag H' b l) ⟨none, none, none, none, none, none, rfl, .refl _ _, B2⟩ ?_ ?_⟩
  · rintro i σ H3 hi ⟨v3, v4, v5, v6, v7, v8, rfl, k3, B3⟩
    have hw3 : SqL K H3 wa (ws.map fun w => V.str (SX.S w)) := SqL.of (k3 _ _ hwa nwb.1)
    -- the shape, the table
    refine ⟨_, rfl, _, rfl, b, l, wa, ws, 4, rfl, B3, hw3, nwb.1, by omega, by omega, by decide, by decide, fun x sh H4 osh fx k4 B4 => ?_⟩
    intro T nT
    have nT' := B4.new nT
    have k34 := k3.trans k4
    have hT2 : H2 T = none := k34.free nT'.1 nT
    have g1 := same_new nT (.dK [])
    refine ⟨_, _, rfl, ?_⟩
    refine ⟨(by show 3 ≤ sizeLine; decide), fun lp nlp => ⟨lp, rfl, ⟨_, SqL.of upd_same⟩, ?_⟩⟩
    have g2 := same_new nlp (.lst [.str "a", .str "b", .str "c"])
    have B5 := B4.kp (g1.trans g2)
    have k5 : Kp b H2 _ := k34.trans (.of (g1.trans g2))
    have nlp' := (B4.kp g1).new nlp
    have nlT : lp ≠ T := (ne_of_none upd_same nlp).symm
    refine for_list (K := K) (a := lp) (xs := [.str "a", .str "b", .str "c"]) (fun j σ H' => ∃ (m : Tab) (lv : Option V), σ = [some (.ref a), some (.ref b), some (.ref wa), some (.int (0 + (i : Int))), some x, some (.ref T), lv, v7, v8] ∧ m.map (·.1) = hs3.take j ∧ (∀ p ∈ m, okF ws [] 2 p.2) ∧ TabAt K H' T m ∧ Kp b H2 H' ∧ Bag H' b l ∧ H' lp = some (.lst [.str "a", .str "b", .str "c"]) ∧ Fr K H' x sh)
      ⟨[], v6, rfl, rfl, fun p hp => (by cases hp), ⟨[], g2 _ _ upd_same, .nil⟩, k5, B5, upd_same, fx.same (g1.trans g2)⟩ (fun j σ H' _ ⟨_, _, _, _, _, _, _, _, hl, _⟩ => SqL.of hl) ?_ ?_
    · rintro j y σ H5' hj ⟨m, lv, rfl, hm1, hm2, hT, k6, B6, hlp, fx6⟩
      obtain ⟨cl, hcl, rfl⟩ : ∃ cl, hs3[j]? = some cl ∧ y = .str (SX.S cl) := by
        match j, hj with
        | 0, hj => cases hj; exact ⟨_, rfl, rfl⟩
        | 1, hj => cases hj; exact ⟨_, rfl, rfl⟩
        | 2, hj => cases hj; exact ⟨_, rfl, rfl⟩
        | j + 3, hj => simp at hj
      have hj3 : j < 3 := (List.getElem?_eq_some_iff.mp hj).1
      refine ⟨_, rfl, _, rfl, b, l, wa, ws, 2, rfl, B6, SqL.of (k6 _ _ hwa nwb.1), nwb.1, by omega, by omega, by decide, by decide, fun v t H7 ot ft k7 B7 => ?_⟩
      obtain ⟨kvs, h1, h2⟩ := hT
      have h1' := k7 _ _ h1 nT'.1
      have lkv : kvs.length = m.length := Paired.length h2
      have lm : m.length ≤ 3 := by
        have z := congrArg List.length hm1
        rw [List.length_map, List.length_take] at z
        have : hs3.length = 3 := rfl
        omega
      refine ⟨_, rfl, _, rfl, T, _, rfl, DPut.k (k := Sum.inr (SX.S cl)) h1' (small1000 (by omega)), ?_⟩
      have tp7 : Tp H7 (upd H7 T (.dK (putK kvs (Sum.inr (SX.S cl)) v))) := Tp.upd h1' trivial
      have htg : tg m cl = none := by
        cases e : tg m cl with
        | none => rfl
        | some t' =>
          have z : cl ∈ hs3.take j := by rw [← hm1]; exact List.mem_map.mpr ⟨_, tg_mem e, rfl⟩
          match j, hj3, hcl, z with
          | 0, _, _, z => cases z
          | 1, _, hcl, z => cases hcl; exact absurd z (by decide)
          | 2, _, hcl, z => cases hcl; exact absurd z (by decide)
      have hkv7 : Paired (TR K H7) kvs m := paired_imp (fun _ _ z => ⟨z.1, z.2.kp k7 B6⟩) h2
      refine ⟨m ++ [(cl, t)], _, rfl, ?_, fun p hp => ?_, ⟨_, upd_same, ?_⟩, ?_, B7.upd nT'.1 nT'.2, ?_, (fx6.kp k7 B6).tp tp7⟩
      · rw [List.map_append, hm1, List.take_add_one, hcl]
        rfl
      · rcases List.mem_append.mp hp with z | z
        · exact hm2 p z
        · rw [List.mem_singleton.mp z]
          exact ot
      · have ev := tab_none hkv7 htg
        rw [putK_new _ ev] at tp7 ⊢
        exact paired_snoc (tab_tp tp7 hkv7) ⟨rfl, ft.tp tp7⟩
      · exact (k6.trans k7).upd hT2
      · rw [upd_ne nlT]
        exact k7 _ _ hlp nlp'.1
    · rintro σ H6 ⟨m, lv, rfl, hm1, hm2, hT, k6, B6, hlp, fx6⟩
      have hm1' : m.map (·.1) = hs3 := hm1
      have hM : ∀ c ∈ hs3, ∃ t, tg m c = some t ∧ okF ws [] 2 t := by
        intro c hc
        rw [← hm1'] at hc
        obtain ⟨p, hp, rfl⟩ := List.mem_map.mp hc
        have z : Fn m := by unfold Fn; rw [hm1']; decide
        exact ⟨p.2, z.tg hp, hm2 p hp⟩
      -- the formula
      have mid : ∃ Mid : L2.St → Hp → Prop, Mid = fun σ' H' => ∃ (y : V) (g : Fm), σ' = [some (.ref a), some (.ref b), some (.ref wa), some (.int (0 + (i : Int))), some x, some (.ref T), lv, some y, v8] ∧ okF ws [] 6 g ∧ Fr K H' y g ∧ Fr K H' x sh ∧ Kp b H2 H' ∧ Bag H' b l := ⟨_, rfl⟩
      obtain ⟨Mid, hMid⟩ := mid
      refine ⟨Mid, ?_, fun σ' H' hm => ?_⟩
      · refine ⟨_, rfl, b, l, 3, rfl, B6, by decide, by decide, fun d3 H7 _ _ k7 B7 => ⟨_, _, rfl, rfl, _, rfl, ?_⟩⟩
        have k67 := k6.trans k7
        have fx7 := fx6.kp k7 B6
        have hw7 : SqL K H7 wa (ws.map fun w => V.str (SX.S w)) := SqL.of (k67 _ _ hwa nwb.1)
        have hT7 : TabAt K H7 T m := by
          obtain ⟨kvs, h1, h2⟩ := hT
          exact ⟨kvs, k7 _ _ h1 nT'.1, paired_imp (fun _ _ z => ⟨z.1, z.2.kp k7 B6⟩) h2⟩
        refine ite2 (fun _ => ?_) (fun _ => ?_)
        · refine ⟨_, rfl, _, rfl, x, T, sh, m, ws, hs3, rfl, fx7, hT7, osh, fun r H8 s8 fr => ?_⟩
          rw [hMid]
          exact ⟨_, _, rfl, pt_ok hM osh, fr, fx7.same s8, k67.trans (.of s8), B7.kp s8⟩
        · refine ⟨_, rfl, _, rfl, b, l, wa, ws, 4, rfl, B7, hw7, nwb.1, by omega, by omega, by decide, by decide, fun y g H8 og fy k8 B8 => ?_⟩
          rw [hMid]
          exact ⟨_, _, rfl, og.le (by decide), fy, fx7.kp k8 B7, k67.trans k8, B8⟩
      · rw [hMid] at hm
        obtain ⟨y, g, rfl, og, fy, fx8, k8, B8⟩ := hm
        refine ⟨Mid, ?_, fun σ' H' hm => ?_⟩
        · refine ⟨_, rfl, b, l, 4, rfl, B8, by decide, by decide, fun d4 H9 _ _ k9 B9 => ⟨rfl, _, rfl, ?_⟩⟩
          have fy9 := fy.kp k9 B8
          have fx9 := fx8.kp k9 B8
          have k89 := k8.trans k9
          refine ite2 (fun _ => ?_) (fun _ => ?_)
          · obtain ⟨p, r, rfl, sp⟩ := fr_head fy9
            refine ⟨_, rfl, p, _, _, _, rfl, rfl, sp, at_head, (by show 3 ≤ sizeLine; decide), fun t3 n3 => ?_⟩
            have g3 := same_new n3 (.tup [.str "then", .str "and", .str "or"])
            refine ⟨t3, _, rfl, .inr (SqT.of upd_same), rfl, rfl, _, rfl, ?_⟩
            cases g with
            | bin k g1' g2' =>
              obtain ⟨p', xa, xb, e1, sp', fa, fb⟩ := fr_bin fy9
              cases e1
              have sp3 := sameT g3 sp'
              refine iteU (kd_in k) ?_
              refine ⟨_, rfl, p, _, _, _, rfl, rfl, sp3, rfl, _, rfl, p, _, _, _, rfl, rfl, sp3, rfl, _, rfl, p, _, _, _, rfl, rfl, sp3, rfl, (by show 3 ≤ sizeLine; decide), fun t4 n4 => ?_⟩
              have g4 := same_new n4 (.tup [.str (kd k), xb, xa])
              rw [hMid]
              exact ⟨_, .bin k g2' g1', rfl, ⟨og.2, og.1⟩, mk_bin (SqT.of upd_same) (fb.same (g3.trans g4)) (fa.same (g3.trans g4)), fx9.same (g3.trans g4), k89.trans (.of (g3.trans g4)), B9.kp (g3.trans g4)⟩
            | fls =>
              refine iteE (by decide +kernel) ?_
              rw [hMid]
              exact ⟨_, _, rfl, og, fy9.same g3, fx9.same g3, k89.trans (.of g3), B9.kp g3⟩
            | atom u =>
              refine iteE (by show inV (.str "atom") _ = false; decide +kernel) ?_
              rw [hMid]
              exact ⟨_, _, rfl, og, fy9.same g3, fx9.same g3, k89.trans (.of g3), B9.kp g3⟩
            | hole u =>
              refine iteE (by show inV (.str "hole") _ = false; decide +kernel) ?_
              rw [hMid]
              exact ⟨_, _, rfl, og, fy9.same g3, fx9.same g3, k89.trans (.of g3), B9.kp g3⟩
          · rw [hMid]
            exact ⟨_, _, rfl, og, fy9, fx9, k89, B9⟩
        · rw [hMid] at hm
          obtain ⟨y, g, rfl, og, fy, fx8, k8, B8⟩ := hm
          -- the law's walk
          refine ⟨_, rfl, _, rfl, fun T0 nT0 => ?_⟩
          have g0 := same_new nT0 (.dK [])
          have tok0 : TOk ws hs3 60 [] := ⟨List.nodup_nil, fun p hp => (by cases hp)⟩
          have og60 : okF ws [] 60 g := og.le (by decide)
          refine ⟨x, y, T0, sh, g, [], ws, hs3, 60, rfl, fx8.same g0, fy.same g0, ⟨[], upd_same, .nil⟩, G, osh, by decide, og60, tok0, fun r9 H9 s9 hr9 => ?_⟩
          have s89 := g0.trans s9
          have hsz : sz sh ≤ 900 := sz_le osh
          have k9 := k8.trans (.of s89)
          have B9 := B8.kp s89
          have fx9 := fx8.same s89
          have fy9 := fy.same s89
          -- what is due, as data
          have due : ∃ dd : PyData, oka 11 dd = true ∧ (∀ H', Same H9 H' → Da K H' r9 dd) ∧ (∀ H10 r, (match hof sh g with | none => r = .non | some m' => ∃ T', r = .ref T' ∧ TabAt K H10 T' m') → Da K H10 r dd) := by
            rcases walks (s := sh) (f := g) with ⟨e1, e2⟩ | ⟨m1, m2, e1, e2, pm, n1, n2, hs, hp⟩
            · refine ⟨.none, rfl, fun H' _ => ?_, fun H10 r hr => ?_⟩
              · rw [e2] at hr9
                subst hr9
                exact .non
              · rw [e1] at hr
                subst hr
                exact .non
            · have tok2 : TOk ws hs3 6 m2 := ⟨n2, fun p hp' => cn_ok osh og p ((hp p).mp hp')⟩
              refine ⟨.dict (m2.map ent), oka_tab hs3_low tok2 (by decide) (by decide : 6 + 1 ≤ 10) (fun t ht => okF_oka ht (by decide)), fun H' s' => ?_, fun H10 r hr => ?_⟩
              · rw [e2] at hr9
                obtain ⟨T', rfl, hT'⟩ := hr9
                exact da_tab (hT'.same s') (.refl _) n2
              · rw [e1] at hr
                obtain ⟨T', rfl, hT'⟩ := hr
                exact da_tab hT' pm n1
          obtain ⟨dd, okd', da9, daH⟩ := due
          -- the first test
          refine ⟨_, rfl, _, rfl, x, y, sh, g, ws, hs3, 4, 60, rfl, fx9, fy9, G, osh, by decide, og60, hsz, fun r10 H10 s10 hr10 => ?_⟩
          refine ⟨_, rfl, _, rfl, rfl, x, y, sh, g, ws, hs3, 4, 60, rfl, fx9.same s10, fy9.same s10, G, osh, by decide, og60, hsz, fun r11 H11 s11 hr11 => ?_⟩
          refine ⟨(by show 2 ≤ sizeLine; decide), fun p1 np1 => ?_⟩
          have g1' := same_new np1 (.lst [r10, r11])
          refine ⟨_, rfl, _, rfl, (by show 2 ≤ sizeLine; decide), fun p2 np2 => ?_⟩
          have g2' := same_new np2 (.lst [r9, r9])
          have s9p := (s10.trans s11).trans (g1'.trans g2')
          refine ⟨.ref p1, .ref p2, .list [dd, dd], rfl, .lst (SqL.of (g2' _ _ upd_same)) (.cons (Da_same (s11.trans (g1'.trans g2')) (daH _ _ hr10)) (.cons (Da_same (g1'.trans g2') (daH _ _ hr11)) .nil)),
            .lst (SqL.of upd_same) (.cons (da9 _ s9p) (.cons (da9 _ s9p) .nil)), by simp only [oka, List.all_cons, List.all_nil, okd', Bool.and_true]; rfl, fun H12 s12 => ⟨_, rfl, iteE rfl ?_⟩⟩
          have s912 := s9p.trans s12
          have k12 := k9.trans (.of s912)
          have B12 := B9.kp s912
          have fx12 := fx9.same s912
          have fy12 := fy9.same s912
          have shg := ok_shaped hlw (hs := []) (fun c h => (by cases h)) og (by decide)
          refine ⟨fun σ' H' => σ' = [some (.ref a), some (.ref b), some (.ref wa), some (.int (0 + (i : Int))), some x, some (.ref T), lv, some y, some r9] ∧ Same H12 H', ?_, fun σ' H' hm => ?_⟩
          · rcases walks (s := sh) (f := g) with ⟨e1, e2⟩ | ⟨m1, m2, e1, e2, pm, n1, n2, hs, hp⟩
            · rw [e2] at hr9
              subst hr9
              refine ⟨_, rfl, _, rfl, iteE rfl (iteE rfl ?_)⟩
              exact ⟨rfl, .refl _⟩
            · rw [e2] at hr9
              obtain ⟨T9, rfl, hT9⟩ := hr9
              refine ⟨_, rfl, _, rfl, iteU rfl ?_⟩
              refine ⟨_, rfl, _, rfl, _, rfl, x, y, sh, g, ws, hs3, 4, 60, rfl, fx12, fy12, G, osh, by decide, og60, hsz, fun r13 H13 s13 hr13 => ?_⟩
              rw [e1] at hr13
              obtain ⟨T13, rfl, hT13⟩ := hr13
              refine ⟨x, T13, sh, m1, ws, hs3, rfl, fx12.same s13, hT13, osh, fun r14 H14 s14 f14 => ?_⟩
              have ept : pt m1 sh = g := pt_back n1 (fun p hp' => pm.mem_iff.mpr ((hp p).mpr hp')) hs
              rw [ept] at f14
              refine ⟨_, rfl, g.dat, g.dat, f14, fy12.same (s13.trans s14), shg, shg, _, rfl, iteE (by rw [eqv_dat, decide_eq_true rfl]; rfl) ?_⟩
              exact ⟨rfl, s13.trans s14⟩
          · obtain ⟨rfl, s13⟩ := hm
            have fy13 := fy12.same s13
            refine ⟨_, rfl, _, rfl, y, y, g, g, ws, [], 6, 60, rfl, fy13, fy13, G0, og, by decide, og60, sz_le og, fun r14 H14 s14 hr14 => ?_⟩
            rw [hof_plain og] at hr14
            obtain ⟨T14, rfl, hT14⟩ := hr14
            intro T15 nT15
            have g15 := same_new nT15 (.dK [])
            refine ⟨.ref T14, .ref T15, .dict [], rfl, da_tab (m2 := []) (hT14.same g15) (.refl _) List.nodup_nil, .dic upd_same (.refl _) List.nodup_nil .nil, rfl, fun H16 s16 => ⟨_, rfl, iteE rfl ?_⟩⟩
            have sE := s13.trans (s14.trans (g15.trans s16))
            exact ⟨_, _, _, _, _, _, rfl, k12.trans (.of sE), B12.kp sE⟩
  · rintro σ H3 ⟨v3, v4, v5, v6, v7, v8, rfl, k3, B3⟩
    exact q H3
end

end Ag

namespace Ag
open PySem PySem.Spec PyProof.Rows L2
section
variable {P : Program} {w : World} {K : PySem.W.Frag} {mg : Str → Option Value} {base : Heap}
theorem law_main {f : Addr} {fd : FuncData} (FL : Fun K "law" "law" s_law f fd) {f_law_bag : Addr} {fd_law_bag : FuncData} (D_law_bag : Df K mg "_law_bag" s_law_bag ["_law_script"] f_law_bag fd_law_bag) {f_law_pull : Addr} {fd_law_pull : FuncData} (D_law_pull : Df K mg "_law_pull" s_law_pull ["_law_bag_here", "_law_many"] f_law_pull fd_law_pull) {f_law_any : Addr} {fd_law_any : FuncData} (D_law_any : Df K mg "_law_any" s_law_any ["_law_bag_here", "_law_things"] f_law_any fd_law_any) {f_law_like : Addr} {fd_law_like : FuncData} (D_law_like : Df K mg "_law_like" s_law_like ["_law_found", "_law_due"] f_law_like fd_law_like) {f_law_names : Addr} {fd_law_names : FuncData} (D_law_names : Df K mg "_law_names" s_law_names ["_law_bag_here", "_law_many"] f_law_names fd_law_names) {f_law_form : Addr} {fd_law_form : FuncData} (D_law_form : Df K mg "_law_form" s_law_form ["_law_bag_here", "_law_words", "_law_deep"] f_law_form fd_law_form) {f_law_shape : Addr} {fd_law_shape : FuncData} (D_law_shape : Df K mg "_law_shape" s_law_shape ["_law_bag_here", "_law_words", "_law_deep"] f_law_shape fd_law_shape) {f_law_match : Addr} {fd_law_match : FuncData} (D_law_match : Df K mg "_law_match" s_law_match ["_law_shape_z", "_law_formula_z", "_law_table"] f_law_match fd_law_match) {f_law_put : Addr} {fd_law_put : FuncData} (D_law_put : Df K mg "_law_put" s_law_put ["_law_term", "_law_table", "_law_word"] f_law_put fd_law_put) {f_holes_of : Addr} {fd_holes_of : FuncData} (D_holes_of : Df K mg "holes_of" s_holes_of ["shape", "formula"] f_holes_of fd_holes_of) (z_len : mg "len" = none) (z_int : mg "int" = none) (z_list : mg "list" = none) (z_isinstance : mg "isinstance" = none) (z_dict : mg "dict" = none) (z_tuple : mg "tuple" = none) (z_bool : mg "bool" = none) (z_str : mg "str" = none) (z_all : mg "all" = none) (z_zip : mg "zip" = none) (z_sorted : mg "sorted" = none) (z_range : mg "range" = none) : FnOk P w K mg base CX0 21 f fd ["_law_script"] (spLaw K) := by
  have LM : LikeM mg := ⟨z_isinstance, z_dict, z_list, z_tuple, z_bool, z_int, z_str, z_len, z_all, z_zip, z_sorted⟩
  have NM : NamesM mg := ⟨z_range, z_int, z_len⟩
  have cP : C8.Cal P w K mg base 1 "_law_pull" spPull [] := D_law_pull.cal (ok_pull D_law_pull.fn z_len z_int)
  have cA : C8.Cal P w K mg base 2 "_law_any" (spAny K) [] := D_law_any.cal (ok_any D_law_any.fn cP z_len)
  have cF := form_cal D_law_form.fn D_law_form.bi D_law_form.mg cP cA
  have GN := ok_holes (P := P) (w := w) (base := base) D_holes_of.fn z_len
  have kw : KW0 fd_holes_of ["shape", "formula"] ["formula", "shape"] List.reverse List.reverse := D_holes_of.kw (fun _ _ _ _ _ _ ws l => match ws, l with | [_, _], _ => rfl) (fun r => vals_rev r)
  exact ok_law FL ⟨D_law_bag.cal (ok_bag D_law_bag.fn z_list), cP, D_law_names.cal (ok_names D_law_names.fn cP cA NM), like_cal D_law_like.fn D_law_like.bi D_law_like.mg LM, cF,
    shape_cal D_law_shape.fn D_law_shape.bi D_law_shape.mg cP cA (cF 1), match_cal D_law_match.fn D_law_match.bi D_law_match.mg z_dict, put_cal D_law_put.fn D_law_put.bi D_law_put.mg, D_holes_of.cal GN⟩ GN D_holes_of.mg D_holes_of.fn.kp kw NM
end
end Ag

namespace Ag
open PySem L2
theorem walk {l : PySem.W.OpenLaw} {q : Program} {loose : List Str} {XP : (Str → Option Value) → Heap → Prop} {YP : World → Heap → Prop} {d : DefRec} {K : Params → PySem.W.Frag} (hn : l.most = some 63) (hdf : d.params.defaults = [])
    (hY : ∀ (w : World) (h : Heap), YP w h → (K w.params).In h)
    (F : ∀ (w : World) (mg : Str → Option Value) (fa : Addr) (h : Heap), (K w.params).In h → h.Ns mainGlobals mg → mg d.name = some (.ref fa) →
      ∃ fd : FuncData, (∀ (s : Shared) (u : Value), BindsTo s fd ⟨[u], []⟩ [("_law_script", u)]) ∧ ∀ base : Heap, (K w.params).In base → base.Ns mainGlobals mg → FnOk l.prog w (K w.params) mg base CX0 21 fa fd ["_law_script"] (spLaw (K w.params))) :
    PySem.W.WalkO q loose XP YP l.row.toRowW d [] (fun f vs => PySem.call f vs) :=
  L2.walk_of (n := 63) (k := 21) (x := "_law_script") (CX := fun _ => CX0) (sp := fun w => spLaw (K w.params)) hn (by decide) hdf ⟨rfl, by decide, by decide⟩ hY F (fun _ _ a ns hl _ hS => ⟨a, ns, rfl, hS, hl, fun _ => rfl⟩) fun _ _ _ _ _ z => z
theorem law_all {l : PySem.W.OpenLaw} {w : World} {K : PySem.W.Frag} {h : Heap} {mg : Str → Option Value} {fa f : Addr} (X : K.In h) (G : h.Ns mainGlobals mg) (hfa : mg "law" = some (.ref fa)) {od an : Option Addr} {sl : Array (Option Value)} {oc kV dc pm cd ct : Value}
    (a : PySem.W.nsIn K mainGlobals "law" = some (some (.ref f))) (lk : K.lookup f = some ⟨oc, od, .func (PySem.W.fnOf "law" "law" (defArgs s_law) (defBody s_law) (defScope s_law) .none kV dc pm an cd ct), sl⟩) (c : PySem.W.codeIn K cd "law" = true) (k : PySem.W.keepIn K (.ref f) = true)
    (H : ∀ base : Heap, K.In base → base.Ns mainGlobals mg → Fun K "law" "law" s_law f (PySem.W.fnOf "law" "law" (defArgs s_law) (defBody s_law) (defScope s_law) .none kV dc pm an cd ct) → FnOk l.prog w K mg base CX0 21 f (PySem.W.fnOf "law" "law" (defArgs s_law) (defBody s_law) (defScope s_law) .none kV dc pm an cd ct) ["_law_script"] (spLaw K)) :
    ∃ fd : FuncData, (∀ (s : Shared) (v : Value), BindsTo s fd ⟨[v], []⟩ [("_law_script", v)]) ∧ ∀ base : Heap, K.In base → base.Ns mainGlobals mg → FnOk l.prog w K mg base CX0 21 fa fd ["_law_script"] (spLaw K) := by
  have e := hfa.symm.trans (PySem.W.mg_of X G a)
  cases e
  exact ⟨_, fun s v => .of_eq rfl, fun base b1 b2 => H base b1 b2 (fun_mk (st := s_law) lk c k)⟩
end Ag
open PySem PySem.W PyProof.Rows L2
set_option maxRecDepth 100000 in
set_option maxHeartbeats 0 in
theorem PySem.Challenge.cw_addedgrounds_k07_whole_holes_filled_holds : PySem.Challenge.rw_addedgrounds_k07_whole_holes_filled.Holds := by
  w_on; o_law; k_head; (case hw => w_witness2)
  k_fill
  refine Ag.walk (l := PySem.Challenge.rw_addedgrounds_k07_whole_holes_filled) rfl rfl (fun w h Y => PySem.W.kIn_of Y) ?F
  case F =>
    intro w mg fa h KX G hmg
    have D_law_bag := by
      refine' Ag.df_mk (x := "_law_bag") (st := Ag.s_law_bag) (ps := ["_law_script"]) KX G (fun _ _ _ _ _ _ us hl => match us, hl with | [_], _ => rfl) ?a ?l ?c ?k
      (case a => k_is); (case l => k_is); (case c => k_is); (case k => k_is)
    have D_law_pull := by
      refine' Ag.df_mk (x := "_law_pull") (st := Ag.s_law_pull) (ps := ["_law_bag_here", "_law_many"]) KX G (fun _ _ _ _ _ _ us hl => match us, hl with | [_, _], _ => rfl) ?a ?l ?c ?k
      (case a => k_is); (case l => k_is); (case c => k_is); (case k => k_is)
    have D_law_any := by
      refine' Ag.df_mk (x := "_law_any") (st := Ag.s_law_any) (ps := ["_law_bag_here", "_law_things"]) KX G (fun _ _ _ _ _ _ us hl => match us, hl with | [_, _], _ => rfl) ?a ?l ?c ?k
      (case a => k_is); (case l => k_is); (case c => k_is); (case k => k_is)
    have D_law_like := by
      refine' Ag.df_mk (x := "_law_like") (st := Ag.s_law_like) (ps := ["_law_found", "_law_due"]) KX G (fun _ _ _ _ _ _ us hl => match us, hl with | [_, _], _ => rfl) ?a ?l ?c ?k
      (case a => k_is); (case l => k_is); (case c => k_is); (case k => k_is)
    have D_law_names := by
      refine' Ag.df_mk (x := "_law_names") (st := Ag.s_law_names) (ps := ["_law_bag_here", "_law_many"]) KX G (fun _ _ _ _ _ _ us hl => match us, hl with | [_, _], _ => rfl) ?a ?l ?c ?k
      (case a => k_is); (case l => k_is); (case c => k_is); (case k => k_is)
    have D_law_form := by
      refine' Ag.df_mk (x := "_law_form") (st := Ag.s_law_form) (ps := ["_law_bag_here", "_law_words", "_law_deep"]) KX G (fun _ _ _ _ _ _ us hl => match us, hl with | [_, _, _], _ => rfl) ?a ?l ?c ?k
      (case a => k_is); (case l => k_is); (case c => k_is); (case k => k_is)
    have D_law_shape := by
      refine' Ag.df_mk (x := "_law_shape") (st := Ag.s_law_shape) (ps := ["_law_bag_here", "_law_words", "_law_deep"]) KX G (fun _ _ _ _ _ _ us hl => match us, hl with | [_, _, _], _ => rfl) ?a ?l ?c ?k
      (case a => k_is); (case l => k_is); (case c => k_is); (case k => k_is)
    have D_law_match := by
      refine' Ag.df_mk (x := "_law_match") (st := Ag.s_law_match) (ps := ["_law_shape_z", "_law_formula_z", "_law_table"]) KX G (fun _ _ _ _ _ _ us hl => match us, hl with | [_, _, _], _ => rfl) ?a ?l ?c ?k
      (case a => k_is); (case l => k_is); (case c => k_is); (case k => k_is)
    have D_law_put := by
      refine' Ag.df_mk (x := "_law_put") (st := Ag.s_law_put) (ps := ["_law_term", "_law_table", "_law_word"]) KX G (fun _ _ _ _ _ _ us hl => match us, hl with | [_, _, _], _ => rfl) ?a ?l ?c ?k
      (case a => k_is); (case l => k_is); (case c => k_is); (case k => k_is)
    have D_holes_of := by
      refine' Ag.df_mk (x := "holes_of") (st := Ag.s_holes_of) (ps := ["shape", "formula"]) KX G (fun _ _ _ _ _ _ us hl => match us, hl with | [_, _], _ => rfl) ?a ?l ?c ?k
      (case a => k_is); (case l => k_is); (case c => k_is); (case k => k_is)
    have z_len : mg "len" = none := by
      refine' PySem.W.mg_none_of KX G ?z
      (case z => k_is)
    have z_int : mg "int" = none := by
      refine' PySem.W.mg_none_of KX G ?z
      (case z => k_is)
    have z_list : mg "list" = none := by
      refine' PySem.W.mg_none_of KX G ?z
      (case z => k_is)
    have z_isinstance : mg "isinstance" = none := by
      refine' PySem.W.mg_none_of KX G ?z
      (case z => k_is)
    have z_dict : mg "dict" = none := by
      refine' PySem.W.mg_none_of KX G ?z
      (case z => k_is)
    have z_tuple : mg "tuple" = none := by
      refine' PySem.W.mg_none_of KX G ?z
      (case z => k_is)
    have z_bool : mg "bool" = none := by
      refine' PySem.W.mg_none_of KX G ?z
      (case z => k_is)
    have z_str : mg "str" = none := by
      refine' PySem.W.mg_none_of KX G ?z
      (case z => k_is)
    have z_all : mg "all" = none := by
      refine' PySem.W.mg_none_of KX G ?z
      (case z => k_is)
    have z_zip : mg "zip" = none := by
      refine' PySem.W.mg_none_of KX G ?z
      (case z => k_is)
    have z_sorted : mg "sorted" = none := by
      refine' PySem.W.mg_none_of KX G ?z
      (case z => k_is)
    have z_range : mg "range" = none := by
      refine' PySem.W.mg_none_of KX G ?z
      (case z => k_is)
    refine' Ag.law_all KX G hmg ?a ?l ?c ?k ?H
    (case a => k_is); (case l => k_is); (case c => k_is); (case k => k_is)
    case H =>
      intro base _ _ FL
      exact Ag.law_main FL D_law_bag D_law_pull D_law_any D_law_like D_law_names D_law_form D_law_shape D_law_match D_law_put D_holes_of z_len z_int z_list z_isinstance z_dict z_tuple z_bool z_str z_all z_zip z_sorted z_range 
