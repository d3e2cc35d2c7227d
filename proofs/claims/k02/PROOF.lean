import PyProof.Rows.All
import Wide.All
import OpenK.AllK
import Wide.FinOn
import HandS.ForMost
import HandS.IsInst
import HandS.Wide
import HandS.Walk
import HandS.Zip
import HandS.Codes
import PySem.Challenge.RW_addedgrounds_k02_names
set_option Elab.async false
set_option maxRecDepth 100000
set_option maxHeartbeats 4000000
set_option linter.unusedVariables false
namespace Ag
open PySem PySem.Spec PyProof.Rows L2

/-! ### heaps: all but the bag is kept -/
def Kp (b : Addr) (H H' : Hp) : Prop := ∀ c o, H c = some o → c ≠ b → H' c = some o
theorem Kp.refl (b : Addr) (H : Hp) : Kp b H H := fun _ _ e _ => e
theorem Kp.trans {b : Addr} {H H1 H2 : Hp} (p : Kp b H H1) (q : Kp b H1 H2) : Kp b H H2 := fun c o e n => q c o (p c o e n) n
theorem Kp.of {b : Addr} {H H' : Hp} (s : Same H H') : Kp b H H' := fun c o e _ => s c o e
theorem Kp.seqL {K : PySem.W.Frag} {b a : Addr} {H H' : Hp} {xs : List V} (p : Kp b H H') (n : a ≠ b) (h : SqL K H a xs) : SqL K H' a xs := by
  rcases h with (h | ⟨o, h⟩) | h
  · exact .inl (.inl (p _ _ h n))
  · exact .inl (.inr ⟨o, p _ _ h n⟩)
  · exact .inr h
theorem Kp.seqT {K : PySem.W.Frag} {b a : Addr} {H H' : Hp} {xs : List V} (p : Kp b H H') (n : a ≠ b) (h : SqT K H a xs) : SqT K H' a xs := by
  rcases h with (h | ⟨o, h⟩) | h
  · exact .inl (.inl (p _ _ h n))
  · exact .inl (.inr ⟨o, p _ _ h n⟩)
  · exact .inr h
theorem sameT {K : PySem.W.Frag} {H H' : Hp} {a : Addr} {xs : List V} (e : Same H H') (h : SqT K H a xs) : SqT K H' a xs := by
  rcases h with (h | ⟨o, h⟩) | h
  · exact .inl (.inl (e _ _ h))
  · exact .inl (.inr ⟨o, e _ _ h⟩)
  · exact .inr h
theorem same_new {H : Hp} {p : Addr} (h : H p = none) (o : HO) : Same H (upd H p o) := fun b u q => by rw [upd_ne (ne_of_none q h)]; exact q

/-! ### the bag that a law draws from -/
def Bag (H : Hp) (b l : Addr) : Prop := ∃ (ns : List Int) (at' : Nat) (big seed cnt : Int), H b = some (.lst [.ref l, .int at', .int big, .int seed, .int cnt]) ∧
  H l = some (.lst (ns.map V.int)) ∧ l ≠ b ∧ ns.length ≤ 63 ∧ 0 ≤ big ∧ 0 ≤ seed ∧ seed < 2147483629
theorem Bag.kp {H H' : Hp} {b l : Addr} (g : Bag H b l) (s : Same H H') : Bag H' b l := by
  obtain ⟨ns, at', big, seed, cnt, h1, h2, r⟩ := g
  exact ⟨ns, at', big, seed, cnt, s _ _ h1, s _ _ h2, r⟩
theorem Bag.new {H : Hp} {b l a : Addr} (g : Bag H b l) (h : H a = none) : a ≠ b ∧ a ≠ l := by
  obtain ⟨ns, at', big, seed, cnt, h1, h2, _⟩ := g
  exact ⟨(ne_of_none h1 h).symm, (ne_of_none h2 h).symm⟩
theorem Bag.upd {H : Hp} {b l a : Addr} {o : HO} (g : Bag H b l) (h1 : a ≠ b) (h2 : a ≠ l) : Bag (upd H a o) b l := by
  obtain ⟨ns, at', big, seed, cnt, g1, g2, r⟩ := g
  exact ⟨ns, at', big, seed, cnt, by rw [upd_ne h1.symm]; exact g1, by rw [upd_ne h2.symm]; exact g2, r⟩
theorem Kp.upd {b a : Addr} {H H' : Hp} {o : HO} (k : Kp b H H') (h : H a = none) : Kp b H (upd H' a o) := fun c u e n => by
  rw [upd_ne (ne_of_none e h)]
  exact k c u e n
theorem Kp.free {b a : Addr} {H H' : Hp} (k : Kp b H H') (n : a ≠ b) (h : H' a = none) : H a = none := by
  cases q : H a with
  | none => rfl
  | some o =>
    rw [k a o q n] at h
    cases h

/-- what may be drawn from: a text's signs, the items of a list or a tuple -/
def Itm (K : PySem.W.Frag) (H : Hp) (b : Addr) (x : V) (vs : List V) : Prop := (∃ z : Str, x = .str z ∧ z.length ≤ sizeLine ∧ vs = z.cps.toList.map fun c => V.str ⟨#[c]⟩) ∨ ∃ a, x = .ref a ∧ a ≠ b ∧ (SqL K H a vs ∨ SqT K H a vs)
/-! ### operators of several kinds at once -/
theorem opOr {X : Cx} {f : Value → Value → Sem Value} {r1 r2 : R2} (h1 : OpR X f r1) (h2 : OpR X f r2) : OpR X f (fun x y H Q => r1 x y H Q ∨ r2 x y H Q) := by
  intro pins s σ H x y v u Q I rx ry h
  rcases h with h | h
  · exact h1 pins s σ H x y v u Q I rx ry h
  · exact h2 pins s σ H x y v u Q I rx ry h

/-! ### data of any depth without dicts -/
theorem Dp_same_all {K : PySem.W.Frag} {H H' : Hp} (s : Same H H') : (∀ (d : PyData) (v : V), Dp K H v d → Dp K H' v d) ∧ True := by
  refine ⟨?_, trivial⟩
  intro d v h
  exact Dp.rec (motive_1 := fun v d _ => Dp K H' v d) (motive_2 := fun vs ds _ => DpAll K H' vs ds) .non .bl .int .str
    (fun q _ ih => .lst (s.seq q) ih) (fun q _ ih => .tup (sameT s q) ih) .nil (fun _ _ a b => .cons a b) h
theorem Dp_same {K : PySem.W.Frag} {H H' : Hp} (s : Same H H') {d : PyData} {v : V} (h : Dp K H v d) : Dp K H' v d := (Dp_same_all s).1 d v h
theorem DpAll_same {K : PySem.W.Frag} {H H' : Hp} (s : Same H H') : ∀ {vs : List V} {ds : List PyData}, DpAll K H vs ds → DpAll K H' vs ds
  | _, _, .nil => .nil
  | _, _, .cons a b => .cons (Dp_same s a) (DpAll_same s b)
theorem dpall_len {K : PySem.W.Frag} {H : Hp} : ∀ {vs : List V} {ds : List PyData}, DpAll K H vs ds → vs.length = ds.length
  | _, _, .nil => rfl
  | _, _, .cons _ b => congrArg (· + 1) (dpall_len b)
theorem dpall_get {K : PySem.W.Frag} {H : Hp} : ∀ {vs : List V} {ds : List PyData} {i : Nat} {v : V}, DpAll K H vs ds → vs[i]? = some v → ∃ d, ds[i]? = some d ∧ Dp K H v d
  | _, _, _, _, .nil, e => by simp at e
  | _, _, 0, _, .cons a _, e => by
    simp at e
    subst e
    exact ⟨_, rfl, a⟩
  | _, _, i + 1, _, .cons _ b, e => by
    obtain ⟨d, h1, h2⟩ := dpall_get (i := i) b (by simpa using e)
    exact ⟨d, by simpa using h1, h2⟩
/-- no dict in it, less than n deep, at most 1000 items in a list -/
def okd : Nat → PyData → Bool
  | 0, _ => false
  | n + 1, .list ds => decide (ds.length ≤ 1000) && ds.all (okd n)
  | n + 1, .tuple ds => decide (ds.length ≤ 1000) && ds.all (okd n)
  | _ + 1, .dict _ => false
  | _ + 1, _ => true
def tyD : PyData → String
  | .none => "NoneType"
  | .bool _ => "bool"
  | .int _ => "int"
  | .str _ => "str"
  | .list _ => "list"
  | .tuple _ => "tuple"
  | .dict _ => "dict"
theorem dp_tyx {K : PySem.W.Frag} {H : Hp} {v : V} {d : PyData} (h : Dp K H v d) : TyX K H v (.type (tyD d)) := by
  cases h with
  | non => exact .base .non
  | bl b => exact .base (.bl b)
  | int i => exact .base (.int i)
  | str x => exact .base (.str x)
  | lst q _ =>
    rcases q with (q | ⟨o, q⟩) | ⟨o, its, n, e, c, _⟩
    · exact .base (.lst q)
    · exact .base (.frz q)
    · exact .kList e c
  | tup q _ =>
    rcases q with (q | ⟨o, q⟩) | ⟨o, its, n, e, c, _⟩
    · exact .base (.tup q)
    · exact .fTuple q
    · exact .kTuple e c
/-- isinstance of such data by a built-in class's name -/
def isD (T : String) (d : PyData) : Bool := (kitB (tyD d) T).getD false
theorem isi_of {K : PySem.W.Frag} {H : Hp} {v : V} {d : PyData} {T : String} {Q : VK} (h : Dp K H v d) (hk : (kitB (tyD d) T).isSome = true) (q : Q (.bl (isD T d)) H) : rIsi K [v, .ty T] H Q := by
  refine ⟨v, .ty T, _, .type T, isD T d, rfl, .ty T, dp_tyx h, ?_, q⟩
  refine kit_ty ?_
  unfold isD
  cases e : kitB (tyD d) T with
  | none => rw [e] at hk; cases hk
  | some b => rfl
theorem kit_some {d : PyData} : (kitB (tyD d) "dict").isSome = true ∧ (kitB (tyD d) "list").isSome = true ∧ (kitB (tyD d) "tuple").isSome = true ∧ (kitB (tyD d) "bool").isSome = true ∧ (kitB (tyD d) "int").isSome = true ∧ (kitB (tyD d) "str").isSome = true := by
  cases d <;> (simp only [tyD]; decide +kernel)
theorem isD_dict {n : Nat} {d : PyData} (h : okd n d = true) : isD "dict" d = false := by
  cases d with
  | dict kvs => cases n <;> simp [okd] at h
  | _ => simp only [isD, tyD]; decide +kernel
theorem iteE {c : Bool} {A B : Prop} (e : c = false) (h : B) : if c = true then A else B := by
  subst e
  exact iteF h
theorem iteU {c : Bool} {A B : Prop} (e : c = true) (h : A) : if c = true then A else B := by
  subst e
  exact iteT h
theorem isiT_of {K : PySem.W.Frag} {H : Hp} {v : V} {d : PyData} {p : Addr} {Q : VK} (h : Dp K H v d) (hp : H p = some (.tup [.ty "list", .ty "tuple"])) (q : Q (.bl (isD "list" d || isD "tuple" d)) H) : rIsiT K [v, .ref p] H Q := by
  refine ⟨v, p, [.ty "list", .ty "tuple"], _, [.type "list", .type "tuple"], _, rfl, hp, .cons (.ty _) (.cons (.ty _) .nil), dp_tyx h, ?_, q⟩
  have h1 : PySem.W.kitOne K (.type (tyD d)) (.type "list") = some (isD "list" d) := kit_ty (by cases d <;> (simp only [isD, tyD]; decide +kernel))
  have h2 : PySem.W.kitOne K (.type (tyD d)) (.type "tuple") = some (isD "tuple" d) := kit_ty (by cases d <;> (simp only [isD, tyD]; decide +kernel))
  refine kitAny_cons h1 (fun e => ?_) (fun e => by rw [e]; rfl)
  rw [e]
  refine kitAny_cons h2 (fun e2 => ?_) (fun e2 => by rw [e2]; rfl)
  rw [e2]
  rfl
theorem walk_zipT {K : PySem.W.Frag} {a b : Addr} {xs ys : List V} {n : Nat} (hn : n = min xs.length ys.length) : Walk (RZ.ItzT K a b) n (fun H => SqT K H a xs ∧ SqT K H b ys) (YPair (fun i => xs[i]?) (fun i => ys[i]?)) := by
  subst hn
  refine ⟨fun i _ hi q => ?_, fun _ q => ⟨xs, ys, q.1, q.2, by omega⟩, fun i H v H' _ q y => ?_⟩
  · have h1 : i < xs.length := by omega
    have h2 : i < ys.length := by omega
    exact ⟨xs, ys, xs[i], ys[i], q.1, q.2, by simp [h1], by simp [h2]⟩
  · obtain ⟨T, x, z, h1, h2, h3, h4, h5⟩ := y
    exact ⟨T, x, z, h1, h2, h3, h4 xs q.1, h5 ys q.2⟩
theorem at_any {α : Type} {xs : List α} {z : Int} {j : Nat} {v : α} (e : z = (j : Int)) (h : xs[j]? = some v) : atI xs z = some v := by
  rw [e]
  exact atI_nat h
theorem isk {K : PySem.W.Frag} {d : PyData} {T : String} (hk : (kitB (tyD d) T).isSome = true) : PySem.W.kitOne K (.type (tyD d)) (.type T) = some (isD T d) := by
  refine kit_ty ?_
  unfold isD
  cases e : kitB (tyD d) T with
  | none => rw [e] at hk; cases hk
  | some b => rfl
theorem iskT {K : PySem.W.Frag} {d : PyData} : PySem.W.kitAny K (.type (tyD d)) [.type "list", .type "tuple"] = some (isD "list" d || isD "tuple" d) := by
  refine kitAny_cons (isk kit_some.2.1) (fun e => ?_) (fun e => by rw [e]; rfl)
  rw [e]
  refine kitAny_cons (isk kit_some.2.2.1) (fun e2 => ?_) (fun e2 => by rw [e2]; rfl)
  rw [e2]
  rfl
theorem isD_leaf {d : PyData} (h2 : ∀ ds, d ≠ .list ds) (h3 : ∀ ds, d ≠ .tuple ds) : (isD "list" d || isD "tuple" d) = false := by
  cases d with
  | list ds => exact absurd rfl (h2 ds)
  | tuple ds => exact absurd rfl (h3 ds)
  | _ => simp only [isD, tyD]; decide +kernel
theorem isD_seq {d : PyData} (h : (∃ ds, d = .list ds) ∨ ∃ ds, d = .tuple ds) : (isD "list" d || isD "tuple" d) = true := by
  rcases h with ⟨ds, rfl⟩ | ⟨ds, rfl⟩ <;> (simp only [isD, tyD]; decide +kernel)
theorem ct2 : Paired ClsV [.ty "list", .ty "tuple"] [.type "list", .type "tuple"] := .cons (.ty _) (.cons (.ty _) .nil)
theorem rep_bl (n : Nat) : List.replicate n (V.bl true) = (List.replicate n true).map V.bl := by rw [List.map_replicate]
theorem rep_all (n : Nat) : (List.replicate n true).all id = true := by
  induction n with
  | zero => rfl
  | succ n ih => rw [List.replicate_succ, List.all_cons, ih]; rfl
theorem small {n : Nat} (h : n ≤ 1000) : n ≤ sizeLine := Nat.le_of_lt (small1000 h)

/-! ### words of small letters -/
def abc : List Nat := (List.range 26).map (· + 97)
theorem abc_str : ("abcdefghijklmnopqrstuvwxyz" : Str) = SX.S abc := by decide +kernel
theorem abc_len : abc.length = 26 := by decide
theorem abc_at {i : Nat} (h : i < 26) : abc[i]? = some (i + 97) := by
  unfold abc
  rw [List.getElem?_map, List.getElem?_range h]
  rfl
theorem abc_mem {c : Nat} : c ∈ abc ↔ 97 ≤ c ∧ c < 123 := by
  unfold abc
  rw [List.mem_map]
  constructor
  · rintro ⟨i, hi, rfl⟩
    rw [List.mem_range] at hi
    omega
  · rintro ⟨h1, h2⟩
    exact ⟨c - 97, by rw [List.mem_range]; omega, by omega⟩
def Low (cs : List Nat) : Prop := ∀ c ∈ cs, 97 ≤ c ∧ c < 123
theorem Low.app {a b : List Nat} (h : Low a) (g : Low b) : Low (a ++ b) := fun c hc => by
  rcases List.mem_append.mp hc with q | q
  · exact h c q
  · exact g c q
theorem Low.take {a : List Nat} (h : Low a) (n : Nat) : Low (a.take n) := fun c hc => h c (List.mem_of_mem_take hc)
theorem Low.drop {a : List Nat} (h : Low a) (n : Nat) : Low (a.drop n) := fun c hc => h c (List.mem_of_mem_drop hc)
theorem Low.one {c : Nat} (h : 97 ≤ c ∧ c < 123) : Low [c] := fun d hd => by
  rw [List.mem_singleton] at hd
  subst hd
  exact h
/-- the k-th of the names that differ in one letter -/
def nm (st : List Nat) (at' fi k : Nat) : List Nat := st.take at' ++ [97 + (fi + 5 * k) % 26] ++ st.drop at'
structure Nms (m : Nat) (ws : List (List Nat)) : Prop where
  ex : ∃ (st : List Nat) (at' fi : Nat), Low st ∧ st.length ≤ 4 ∧ at' ≤ st.length ∧ fi < 26 ∧ ws = (List.range m).map (nm st at' fi)
theorem nm_low {st : List Nat} {at' fi k : Nat} (h : Low st) : Low (nm st at' fi k) := ((h.take at').app (.one (by omega))).app (h.drop at')
theorem nm_len {st : List Nat} {at' fi k : Nat} : (nm st at' fi k).length = st.length + 1 := by
  unfold nm
  rw [List.length_append, List.length_append, List.length_take, List.length_drop, List.length_singleton]
  omega
theorem Nms.len {m : Nat} {ws : List (List Nat)} (h : Nms m ws) : ws.length = m := by
  obtain ⟨st, at', fi, _, _, _, _, rfl⟩ := h.ex
  rw [List.length_map, List.length_range]
theorem Nms.word {m : Nat} {ws : List (List Nat)} (h : Nms m ws) : ∀ w ∈ ws, Low w ∧ 1 ≤ w.length ∧ w.length ≤ 5 := by
  obtain ⟨st, at', fi, h1, h2, _, _, rfl⟩ := h.ex
  intro w hw
  obtain ⟨k, _, rfl⟩ := List.mem_map.mp hw
  rw [nm_len]
  exact ⟨nm_low h1, by omega, by omega⟩
theorem joinL_nil : ∀ cs : List (List Nat), TL.joinL [] cs = cs.flatten
  | [] => rfl
  | [p] => by simp [TL.joinL]
  | p :: q :: r => by
    show p ++ ([] ++ TL.joinL [] (q :: r)) = (p :: q :: r).flatten
    rw [joinL_nil (q :: r)]
    simp
/-- "".join of signs -/
theorem join_signs (cs : List Nat) : Txt.join (Str.ofString "") (cs.map fun c => (⟨#[c]⟩ : Str)) = SX.S cs := by
  have e0 : Str.ofString "" = SX.S [] := by decide +kernel
  have e1 : (cs.map fun c => (⟨#[c]⟩ : Str)) = (cs.map fun c => [c]).map SX.S := by rw [List.map_map]; rfl
  have e2 : (cs.map fun c => [c]).flatten = cs := by
    clear e1
    induction cs with
    | nil => rfl
    | cons c r ih => simp [ih]
  rw [e0, e1, SX.join_S, joinL_nil, e2]
end Ag
namespace Ag
open PySem PySem.Spec PyProof.Rows L2
/-! ### the program's words: letters, names -/
def isLet (cs : List Nat) : Bool := decide (cs.length = 1) && cs.all fun c => decide (97 ≤ c) && decide (c < 123)
def isNm (cs : List Nat) : Bool := decide (1 ≤ cs.length) && decide (cs.length ≤ 6) && cs.all fun c => decide (97 ≤ c) && decide (c < 123)
theorem isNm_low {cs : List Nat} (h : Low cs) (h1 : 1 ≤ cs.length) : isNm cs = decide (cs.length ≤ 6) := by
  unfold isNm
  have e : (cs.all fun c => decide (97 ≤ c) && decide (c < 123)) = true := by
    rw [List.all_eq_true]
    intro c hc
    simp only [Bool.and_eq_true, decide_eq_true_eq]
    exact h c hc
  rw [e, decide_eq_true h1, Bool.true_and, Bool.and_true]
theorem isNm_bad {cs : List Nat} {c : Nat} (h : c ∈ cs) (hc : ¬ (97 ≤ c ∧ c < 123)) : isNm cs = false := by
  unfold isNm
  have e : (cs.all fun c => decide (97 ≤ c) && decide (c < 123)) = false := by
    rw [List.all_eq_false]
    refine ⟨c, h, ?_⟩
    simp only [Bool.and_eq_true, decide_eq_true_eq]
    exact hc
  rw [e, Bool.and_false]
theorem isLet_in (cs : List Nat) (h : cs.length = 1) : (!(Builtin.Str.occurrences (SX.S abc) (SX.S cs) 0 (SX.S abc).length 1).isEmpty) = isLet cs := by
  match cs, h with
  | [c], _ =>
    rw [SX.in_one]
    unfold isLet
    by_cases hc : 97 ≤ c ∧ c < 123
    · rw [decide_eq_true (abc_mem.mpr hc)]
      simp [hc.1, hc.2]
    · rw [decide_eq_false (fun z => hc (abc_mem.mp z))]
      simp
      intro h1
      omega
/-- a value of no text -/
def NoStr (K : PySem.W.Frag) (H : Hp) (x : V) : Prop := ∃ t, TyX K H x t ∧ PySem.W.kitOne K t (.type "str") = some false
/-! ### a call with keywords alone -/
structure KW0 (fd : FuncData) (ps ks : List Str) (g : List Value → List Value) (gV : List V → List V) : Prop where
  to : ∀ (s : Shared) (ws : List Value), ws.length = ks.length → BindsTo s fd ⟨[], ks.zip ws⟩ (ps.zip (g ws))
  rel : ∀ {zs : List V} {ws : List Value}, Vals zs ws → Vals (gV zs) (g ws)
def tCallW (n : Nat) (sp : Sp) (gV : List V → List V) (E : XK) (tk : TA) : TE := fun σ H Q => tk σ H fun zs H2 => zs.length = n ∧ sp (gV zs) H2 Q E
theorem pe_callW {X : Cx} {CX : CXT} {k : Nat} {f : Addr} {fd : FuncData} {ps ks : List Str} {sp : Sp} {E : XK} {x : Str} {p pos : Pos} {kws : List Keyword} {tk : TA} {g : List Value → List Value} {gV : List V → List V}
    (F : FnOk X.prog X.w X.K X.mg X.base CX k f fd ps sp) (hr : Room k X.A) (hg : Gl X x) (hm : X.mg x = some (.ref f)) (hk : PySem.W.keepIn X.K (.ref f) = true) (hb : KW0 fd ps ks g gV) (hx : Passes CX X E) (hkw : PK X kws tk)
    (hall : (backToKw pos (keywordEach kws X.env)).all (·.1.isSome) = true := by rfl) (hks : (backToKw pos (keywordEach kws X.env)).filterMap (·.1) = ks := by rfl) (hdb : (x == ("__debug__" : Str)) = false := by decide)
    (hpl : ((backTo pos (starEach [] X.env)).any (·.1) || (backToKw pos (keywordEach kws X.env)).any (·.1.isNone)) = false := by rfl) : PE X (.Call (.Name x p) [] kws pos) (tCallW ks.length sp gV E tk) := by
  refine ⟨fun pins s σ H Q I h => ?_⟩
  refine wpAny_Call_Name_kw (ld_glob I hg hm ?_ hdb)
  refine PySem.W.callWith_KW0 (h₀ := X.base) I.ok.mod.kin hk hall ?_ hpl
  refine thn (hkw.run pos pins s σ H _ I h) fun ws s2 ⟨zs, H2, I2, rz, l2, q2⟩ => ⟨I2.kIn, ?_⟩
  rw [hks]
  have r2 := hb.rel rz
  refine wpAny_call (codeAny_mono (F.run X.A X.stack s2 H2 ⟨[], ks.zip ws⟩ (g ws) (gV zs) Q E hr I2.env0 (hb.to s2 ws (rz.length.symm.trans l2)) r2 q2) fun r s' hq => ?_)
  cases r with
  | error e => exact hx pins σ H2 s2 e s' I2 hq
  | ok fl =>
    cases fl with
    | ret u => exact I2.after hq
    | next => exact False.elim hq
    | brk => exact False.elim hq
    | cont => exact False.elim hq
end Ag
namespace Ag
open PySem PySem.Spec PyProof.Rows L2
theorem dpall_bools {K : PySem.W.Frag} {H : Hp} : ∀ bs : List Bool, DpAll K H (bs.map V.bl) (bs.map PyData.bool)
  | [] => .nil
  | b :: r => .cons (.bl b) (dpall_bools r)
theorem okd_bools {n : Nat} {bs : List Bool} (h : bs.length ≤ 1000) : okd (n + 2) (.list (bs.map PyData.bool)) = true := by
  simp only [okd, List.length_map, decide_eq_true h, Bool.true_and, List.all_eq_true]
  intro d hd
  obtain ⟨b, _, rfl⟩ := List.mem_map.mp hd
  rfl
theorem sizes_signs (l : List Nat) : ((l.map fun c => (⟨#[c]⟩ : Str)).map (·.length)).sum = l.length := by
  induction l with
  | nil => rfl
  | cons c r ih =>
    rw [List.map_cons, List.map_cons, List.sum_cons, ih, List.length_cons]
    show 1 + r.length = r.length + 1
    omega
theorem itm_abc {K : PySem.W.Frag} {H : Hp} {b : Addr} : Itm K H b (.str "abcdefghijklmnopqrstuvwxyz") (abc.map fun c => V.str ⟨#[c]⟩) := .inl ⟨_, rfl, by rw [abc_str, SX.S_len, abc_len]; decide, by rw [abc_str]⟩
end Ag
namespace Ag
open PySem PySem.Spec PyProof.Rows L2
theorem tyx_kp {K : PySem.W.Frag} {b : Addr} {H H' : Hp} (k : Kp b H H') {x : V} {t : Value} (h : TyX K H x t) (n : x ≠ .ref b) : TyX K H' x t := by
  have nb : ∀ a, V.ref a ≠ .ref b → a ≠ b := fun a z e => z (by rw [e])
  cases h with
  | base h =>
    refine .base ?_
    cases h with
    | non => exact .non
    | bl y => exact .bl y
    | int i => exact .int i
    | str y => exact .str y
    | flt y => exact .flt y
    | lst e => exact .lst (k _ _ e (nb _ n))
    | frz e => exact .frz (k _ _ e (nb _ n))
    | tup e => exact .tup (k _ _ e (nb _ n))
    | dK e => exact .dK (k _ _ e (nb _ n))
    | dT e => exact .dT (k _ _ e (nb _ n))
    | ins e cl ha hn htk hm => exact .ins (k _ _ e (nb _ n)) cl ha hn htk hm
  | byt y => exact .byt y
  | set e => exact .set (k _ _ e (nb _ n))
  | kList e c => exact .kList e c
  | kTuple e c => exact .kTuple e c
  | kDict e c => exact .kDict e c
  | fTuple e => exact .fTuple (k _ _ e (nb _ n))
  | fDict e => exact .fDict (k _ _ e (nb _ n))
theorem tyx_same {K : PySem.W.Frag} {H H' : Hp} (k : Same H H') {x : V} {t : Value} (h : TyX K H x t) : TyX K H' x t := by
  cases h with
  | base h =>
    refine .base ?_
    cases h with
    | non => exact .non
    | bl y => exact .bl y
    | int i => exact .int i
    | str y => exact .str y
    | flt y => exact .flt y
    | lst e => exact .lst (k _ _ e)
    | frz e => exact .frz (k _ _ e)
    | tup e => exact .tup (k _ _ e)
    | dK e => exact .dK (k _ _ e)
    | dT e => exact .dT (k _ _ e)
    | ins e cl ha hn htk hm => exact .ins (k _ _ e) cl ha hn htk hm
  | byt y => exact .byt y
  | set e => exact .set (k _ _ e)
  | kList e c => exact .kList e c
  | kTuple e c => exact .kTuple e c
  | kDict e c => exact .kDict e c
  | fTuple e => exact .fTuple (k _ _ e)
  | fDict e => exact .fDict (k _ _ e)
theorem NoStr.kp {K : PySem.W.Frag} {b : Addr} {H H' : Hp} (k : Kp b H H') {x : V} (h : NoStr K H x) (n : x ≠ .ref b) : NoStr K H' x := by
  obtain ⟨t, h1, h2⟩ := h
  exact ⟨t, tyx_kp k h1 n, h2⟩
theorem NoStr.same {K : PySem.W.Frag} {H H' : Hp} (k : Same H H') {x : V} (h : NoStr K H x) : NoStr K H' x := by
  obtain ⟨t, h1, h2⟩ := h
  exact ⟨t, tyx_same k h1, h2⟩
theorem nostr_non {K : PySem.W.Frag} {H : Hp} : NoStr K H .non := ⟨_, .base .non, kit_ty (by decide +kernel)⟩
theorem nostr_int {K : PySem.W.Frag} {H : Hp} {i : Int} : NoStr K H (.int i) := ⟨_, .base (.int i), kit_ty (by decide +kernel)⟩
theorem nostr_bl {K : PySem.W.Frag} {H : Hp} {c : Bool} : NoStr K H (.bl c) := ⟨_, .base (.bl c), kit_ty (by decide +kernel)⟩
theorem nostr_tup {K : PySem.W.Frag} {H : Hp} {a : Addr} {xs : List V} (h : H a = some (.tup xs)) : NoStr K H (.ref a) := ⟨_, .base (.tup h), kit_ty (by decide +kernel)⟩
theorem nostr_lst {K : PySem.W.Frag} {H : Hp} {a : Addr} {xs : List V} (h : H a = some (.lst xs)) : NoStr K H (.ref a) := ⟨_, .base (.lst h), kit_ty (by decide +kernel)⟩
/-- 'join of drawn signs': the turn's word, and what it is in the end -/
def Sgn (b l D : Addr) (H0 : Hp) (i : Nat) (H' : Hp) : Prop := ∃ cs : List Nat, Low cs ∧ cs.length = i ∧ Kp b H0 H' ∧ Bag H' b l ∧ H' D = some (.lst ((cs.map fun c => (⟨#[c]⟩ : Str)).map V.str))
end Ag
namespace Ag
open PySem PySem.Spec PyProof.Rows L2
/-- whether a value is a letter, a name -/
def LetIs (K : PySem.W.Frag) (H : Hp) (x : V) (ok : Bool) : Prop := (∃ cs : List Nat, x = .str (SX.S cs) ∧ cs.length ≤ 1000 ∧ ok = isLet cs) ∨ (NoStr K H x ∧ ok = false)
def NameIs (K : PySem.W.Frag) (H : Hp) (x : V) (ok : Bool) : Prop := (∃ cs : List Nat, x = .str (SX.S cs) ∧ cs.length ≤ 1000 ∧ ok = isNm cs) ∨ (NoStr K H x ∧ ok = false)
theorem name_is {K : PySem.W.Frag} {H : Hp} {cs : List Nat} (h : cs.length ≤ 1000) : NameIs K H (.str (SX.S cs)) (isNm cs) := .inl ⟨cs, rfl, h, rfl⟩
theorem NameIs.same {K : PySem.W.Frag} {H H' : Hp} (s : Same H H') {x : V} {ok : Bool} (h : NameIs K H x ok) : NameIs K H' x ok := by
  rcases h with h | ⟨h, e⟩
  · exact .inl h
  · exact .inr ⟨h.same s, e⟩
end Ag

namespace Ag
open PySem PySem.Spec PyProof.Rows L2
def top (i : Nat) : Stmt := PySem.Challenge.pw_addedgrounds_k02_names.main.body.getD i (.Pass ⟨0, 0, 0, 0⟩)
abbrev sBag : Stmt := top 6
abbrev sPull : Stmt := top 7
abbrev sAny : Stmt := top 8
abbrev sLike : Stmt := top 9
abbrev sNames : Stmt := top 10

section
variable {P : Program} {w : World} {K : PySem.W.Frag} {mg : Str → Option Value} {base : Heap}
/-! ### _law_bag -/
def spBag (K : PySem.W.Frag) : Sp := fun vs H Q _ => ∃ (a : Addr) (ns : List Int), vs = [.ref a] ∧ SqL K H a (ns.map V.int) ∧ ns.length ≤ 63 ∧
  ∀ (b l : Addr) (H' : Hp), H b = none → Same H H' → Bag H' b l → Q (.ref b) H'
theorem scBag : FnScope ["_law_script"] ["_law_script"] (defScope sBag) := ⟨rfl, rfl, rfl, by decide +kernel, rfl, by decide +kernel, by decide +kernel⟩
theorem ok_bag {f : Addr} {fd : FuncData} (F : Fun K "_law_bag" "_law_bag" sBag f fd) (ml : mg "list" = none) : FnOk P w K mg base CX0 1 f fd ["_law_script"] (spBag K) := by
  refine F.ok scBag (fun vs H Q E h => ?_) (fun cdv A outer s H vs Q E hr h => ?_)
  · obtain ⟨a, ns, rfl, _⟩ := h
    rfl
  obtain ⟨a, ns, rfl, hS, h63, q⟩ := h
  refine ⟨_, pss_one (ps_ret (pe_lst (pa_cons (pe_callTy call_list_of (by rfl) ml (by decide +kernel) (pa_cons (pe_slice sl_list (pv 0) po_none (po_some pe_int)) pa_nil))
    (pa_cons pe_int (pa_cons pe_int (pa_cons pe_int (pa_cons pe_int pa_nil))))))), ?_⟩
  refine ⟨_, rfl, _, rfl, a, _, rfl, hS, fun p np => ?_⟩
  have ec : cutV (ns.map V.int) none (some 63) = ns.map V.int := by
    unfold cutV
    have e1 : HT.sIx (ns.map V.int).length 0 none = 0 := rfl
    have e2 : HT.sIx (ns.map V.int).length (ns.map V.int).length (some 63) = (ns.map V.int).length := by
      rw [List.length_map]
      unfold HT.sIx
      simp
      omega
    rw [e1, e2, List.drop_zero, List.take_of_length_le (by omega)]
  rw [ec]
  refine ⟨p, _, rfl, .inl (SqL.of upd_same), fun l nl => ?_⟩
  have npl : p ≠ l := ne_of_none upd_same nl
  have nHl : H l = none := (same_new np _).free nl
  refine ⟨(by show 5 ≤ sizeLine; decide), fun b nb => ?_⟩
  have nlb : l ≠ b := ne_of_none upd_same nb
  have s1 := (same_new np (.lst (ns.map V.int))).trans (same_new nl (.lst (ns.map V.int)))
  refine q b l _ (s1.free nb) (s1.trans (same_new nb _)) ⟨ns, 0, 0, 4932, 0, upd_same, ?_, nlb, h63, by decide, by decide, by decide⟩
  rw [upd_ne nlb, upd_same]
end
end Ag

namespace Ag
open PySem PySem.Spec PyProof.Rows L2
section
variable {P : Program} {w : World} {K : PySem.W.Frag} {mg : Str → Option Value} {base : Heap}
/-! ### _law_pull -/
def spPull : Sp := fun vs H Q _ => ∃ (b l : Addr) (m : Int), vs = [.ref b, .int m] ∧ Bag H b l ∧ 0 < m ∧ m < 2 ^ 62 ∧
  ∀ (d : Int) (H' : Hp), 0 ≤ d → d < m → Kp b H H' → Bag H' b l → Q (.int d) H'
theorem scPull : FnScope ["_law_bag_here", "_law_many", "_law_cell", "_law_digit", "_law_seed"] ["_law_bag_here", "_law_many"] (defScope sPull) := ⟨rfl, rfl, rfl, by decide +kernel, rfl, by decide +kernel, by decide +kernel⟩
theorem tseq {t u : TS} {D : Ends} {σ : L2.St} {H : Hp} (Mid : L2.St → Hp → Prop) (h2 : ∀ σ' H', Mid σ' H' → u D σ' H') (h1 : (∀ σ' H', Mid σ' H' → u D σ' H') → tSeq t u D σ H) : tSeq t u D σ H := h1 h2
theorem kp_upd {b : Addr} {H : Hp} {o : HO} : Kp b H (upd H b o) := fun c u e n => by rw [upd_ne n]; exact e
theorem fm_in (t : Int) {m : Int} (hm : 0 < m) : 0 ≤ t.fmod m ∧ t.fmod m < m := by
  rw [Int.fmod_eq_emod_of_nonneg t (by omega)]
  exact ⟨Int.emod_nonneg t (by omega), Int.emod_lt_of_pos t hm⟩
theorem ok_pull {f : Addr} {fd : FuncData} (F : Fun K "_law_pull" "_law_pull" sPull f fd) (ml : mg "len" = none) (mi : mg "int" = none) : FnOk P w K mg base CX0 1 f fd ["_law_bag_here", "_law_many"] spPull := by
  refine F.ok scPull (fun vs H Q E h => ?_) (fun cdv A outer s H vs Q E hr h => ?_)
  · obtain ⟨b, l, m, rfl, _⟩ := h
    rfl
  obtain ⟨b, l, m, rfl, hB, hm, hm', q⟩ := h
  have nd := scPull.nd
  refine ⟨_, pss_cons (ps_if (PW.pt (pw_and (pt_cmpR op_eq (pe_ix ix_list (pv 0) pe_int (fun _ _ => rfl)) pe_int (nomark _)) (pw_and1 (pt_cmpR op_lt (pe_ix ix_list (pv 0) pe_int (fun _ _ => rfl)) (pe_callB call_len_seq (by rfl) ml boot_len (pa_cons (pe_ix ix_list (pv 0) pe_int (fun _ _ => rfl)) pa_nil)) (nomark _)))))
      (pss_cons (ps_set (i := 2) nd rfl (.inl rfl) (pe_ix ix_list (pe_ix ix_list (pv 0) pe_int (fun _ _ => rfl)) (pe_ix ix_list (pv 0) pe_int (fun _ _ => rfl)) (fun _ _ => rfl)))
      (pss_cons (ps_asg (pe_op op_add (pe_ix ix_list (pv 0) pe_int (fun _ _ => rfl)) pe_int) (pg_sub (pv 0) pe_int set_list))
      (pss_one (ps_if (pt_cmpR op_ge (pv 2) (pe_op op_pow pe_int pe_int) (nomark _))
        (pss_one (ps_asg (pv 2) (pg_sub (pv 0) pe_int set_list)))
        (pss_one (ps_asg (pe_op op_modN (pe_callTy call_int1 (by rfl) mi (by decide +kernel) (pa_cons (pe_op op_add (pe_op op_add (pe_op op_mul (pe_ix ix_list (pv 0) pe_int (fun _ _ => rfl)) pe_int) (pe_op op_mul (pe_op op_modN (pe_callTy call_int1 (by rfl) mi (by decide +kernel) (pa_cons (pv 2) pa_nil)) pe_int) pe_int)) pe_int) pa_nil)) pe_int) (pg_sub (pv 0) pe_int set_list))))))) pss_nil)
    (pss_cons (ps_if (pt_cmpR op_gt (pe_ix ix_list (pv 0) pe_int (fun _ _ => rfl)) pe_int (nomark _))
      (pss_cons (ps_set (i := 3) nd rfl (.inl rfl) (pe_op op_modN (pe_callTy call_int1 (by rfl) mi (by decide +kernel) (pa_cons (pe_ix ix_list (pv 0) pe_int (fun _ _ => rfl)) pa_nil)) (pv 1)))
      (pss_cons (ps_asg (pe_op op_fdivW (pe_ix ix_list (pv 0) pe_int (fun _ _ => rfl)) (pv 1)) (pg_sub (pv 0) pe_int set_list))
      (pss_one (ps_ret (pv 3))))) pss_nil)
    (pss_cons (ps_asg (pe_op op_add (pe_ix ix_list (pv 0) pe_int (fun _ _ => rfl)) pe_int) (pg_sub (pv 0) pe_int set_list))
    (pss_cons (ps_set (i := 4) nd rfl (.inl rfl) (pe_ix ix_list (pv 0) pe_int (fun _ _ => rfl)))
    (pss_cons (ps_asg (pe_op op_modN (pe_callTy call_int1 (by rfl) mi (by decide +kernel) (pa_cons (pe_op op_add (pe_op op_add (pe_op op_add (pe_op op_mul (pe_op op_mul (pv 4) (pv 4)) pe_int) (pe_op op_mul (pv 4) pe_int)) (pe_op op_mul (pe_ix ix_list (pv 0) pe_int (fun _ _ => rfl)) pe_int)) pe_int) pa_nil)) pe_int) (pg_sub (pv 0) pe_int set_list))
    (pss_one (ps_ret (pe_op op_modN (pe_callTy call_int1 (by rfl) mi (by decide +kernel) (pa_cons (pe_op op_add (pe_op op_fdivN (pe_ix ix_list (pv 0) pe_int (fun _ _ => rfl)) pe_int) (pe_op op_mul (pe_op op_modN (pe_callTy call_int1 (by rfl) mi (by decide +kernel) (pa_cons (pe_ix ix_list (pv 0) pe_int (fun _ _ => rfl)) pa_nil)) pe_int) pe_int)) pa_nil)) (pv 1)))))))), ?_⟩
  refine tseq (fun σ' H' => ∃ cv : Option V, σ' = [some (.ref b), some (.int m), cv, none, none] ∧ Kp b H H' ∧ Bag H' b l) (fun σ' H1 hM => ?_) (fun tail => ?_)
  · obtain ⟨cv, rfl, k, ns, at', big, seed, cnt, h1, h2, hl, h63, hb, h0, h9⟩ := hM
    refine ⟨_, rfl, b, _, _, _, rfl, rfl, SqL.of h1, rfl, _, _, rfl, rfl, _, rfl, ?_⟩
    refine ite2 (fun c => ?_) (fun c => ?_)
    · refine ⟨_, rfl, b, _, _, _, rfl, rfl, SqL.of h1, rfl, .inl ⟨_, rfl, ?_⟩⟩
      refine ⟨_, rfl, _, _, rfl, rfl, (by omega), ?_⟩
      refine ⟨_, rfl, b, _, _, _, rfl, rfl, SqL.of h1, rfl, _, rfl, _, _, rfl, rfl, wide_div hm (b := 62) (by omega) (by decide) (by decide), ?_⟩
      refine ⟨_, rfl, b, _, _, _, rfl, rfl, h1, rfl, ?_⟩
      refine ⟨_, rfl, ?_⟩
      refine q _ _ (fm_in big hm).1 (fm_in big hm).2 (k.trans kp_upd) ⟨ns, at', big / m, seed, cnt, upd_same, ?_, hl, h63, Int.ediv_nonneg (by omega) (by omega), h0, h9⟩
      rw [upd_ne hl]; exact h2
    · refine ⟨_, rfl, b, _, _, _, rfl, rfl, SqL.of h1, rfl, _, _, rfl, rfl, _, rfl, b, _, _, _, rfl, rfl, h1, rfl, ?_⟩
      refine ⟨_, rfl, b, _, _, _, rfl, rfl, SqL.of upd_same, rfl, ?_⟩
      have cs : CMul seed seed := .inl ⟨by omega, by omega⟩
      have cr : ∀ i j : Int, -(2 ^ 64) < j ∧ j < 2 ^ 64 → CMul i j := fun i j h => .inr h
      refine ⟨_, rfl, _, rfl, _, _, rfl, rfl, cs, _, _, rfl, rfl, cr _ _ (by decide), _, rfl, _, _, rfl, rfl, cr _ _ (by decide), _, _, rfl, rfl,
        _, rfl, b, _, _, _, rfl, rfl, SqL.of upd_same, rfl, _, _, rfl, rfl, cr _ _ (by decide), _, _, rfl, rfl, _, _, rfl, rfl, .inl ⟨_, rfl, _, _, rfl, rfl, (by show (2147483629 : Int) ≠ 0; decide), ?_⟩⟩
      refine ⟨_, rfl, b, _, _, _, rfl, rfl, upd_same, rfl, ?_⟩
      have sd := fm_in (seed * seed * 3 + seed * 27011 + (cnt + 1) * 1299689 + 40507) (m := 2147483629) (by decide)
      refine ⟨_, rfl, b, _, _, _, rfl, rfl, SqL.of upd_same, rfl, _, _, rfl, rfl, ⟨by decide, by decide⟩, _, rfl, b, _, _, _, rfl, rfl, SqL.of upd_same, rfl, .inl ⟨_, rfl, _, _, rfl, rfl, (by show (7901 : Int) ≠ 0; decide), _, _, rfl, rfl, cr _ _ (by decide), _, _, rfl, rfl,
        .inl ⟨_, rfl, _, rfl, _, _, rfl, rfl, by omega, ?_⟩⟩⟩
      refine q _ _ (fm_in _ hm).1 (fm_in _ hm).2 (k.trans (kp_upd.trans kp_upd)) ⟨ns, at', big, _, cnt + 1, upd_same, ?_, hl, h63, hb, sd.1, sd.2⟩
      rw [upd_ne hl, upd_ne hl]; exact h2
  · obtain ⟨ns, at', big, seed, cnt, h1, h2, hl, h63, hb, h0, h9⟩ := hB
    refine ⟨_, rfl, b, _, _, _, rfl, rfl, SqL.of h1, rfl, rfl, _, rfl, ?_⟩
    refine ite2 (fun c => ?_) (fun c => ?_)
    · refine ⟨_, rfl, b, _, _, _, rfl, rfl, SqL.of h1, rfl, _, rfl, b, _, _, _, rfl, rfl, SqL.of h1, rfl, l, _, rfl, .inl (SqL.of h2), _, _, rfl, rfl, _, rfl, ?_⟩
      refine ite2 (fun c1 => ?_) (fun c1 => ?_)
      · have c2 : at' < (ns.map V.int).length := by have z := of_decide_eq_true c1; omega
        have c3 : at' < ns.length := by rw [List.length_map] at c2; exact c2
        have hv : atI (ns.map V.int) (at' : Int) = some (.int ns[at']) := atI_nat (by rw [List.getElem?_map, List.getElem?_eq_getElem c3]; rfl)
        refine ⟨_, rfl, b, _, _, _, rfl, rfl, SqL.of h1, rfl, _, rfl, b, _, _, _, rfl, rfl, SqL.of h1, rfl, l, _, _, _, rfl, rfl, SqL.of h2, hv, ?_⟩
        refine ⟨_, rfl, b, _, _, _, rfl, rfl, SqL.of h1, rfl, _, _, rfl, rfl, _, rfl, b, _, _, _, rfl, rfl, h1, rfl, ?_⟩
        refine ⟨_, rfl, _, _, rfl, rfl, ⟨by decide, by decide, by decide⟩, _, _, rfl, rfl, _, rfl, ?_⟩
        refine ite2 (fun c4 => ?_) (fun c4 => ?_)
        · have c5 : ns[at'] ≥ 10 ^ (18 : Int).toNat := of_decide_eq_true c4
          have c6 : (0 : Int) ≤ ns[at'] := by
            have z : (0 : Int) ≤ 10 ^ (18 : Int).toNat := by decide
            omega
          refine ⟨_, rfl, _, rfl, b, _, _, _, rfl, rfl, upd_same, rfl, ?_⟩
          refine tail _ _ ⟨_, rfl, kp_upd.trans kp_upd, ns, at' + 1, ns[at'], seed, cnt, upd_same, ?_, hl, h63, c6, h0, h9⟩
          rw [upd_ne hl, upd_ne hl]; exact h2
        · refine ⟨_, rfl, b, _, _, _, rfl, rfl, SqL.of upd_same, rfl, _, _, rfl, rfl, .inr ⟨by decide, by decide⟩, _, rfl, .inl ⟨_, rfl, _, _, rfl, rfl, (by show (2147483489 : Int) ≠ 0; decide), _, _, rfl, rfl, .inr ⟨by decide, by decide⟩, _, _, rfl, rfl, _, _, rfl, rfl,
            .inl ⟨_, rfl, _, _, rfl, rfl, (by show (2147483629 : Int) ≠ 0; decide), ?_⟩⟩⟩
          refine ⟨_, rfl, b, _, _, _, rfl, rfl, upd_same, rfl, ?_⟩
          have sd := fm_in (seed * 40009 + ns[at'].fmod 2147483489 * 30011 + 17) (m := 2147483629) (by decide)
          refine tail _ _ ⟨_, rfl, kp_upd.trans kp_upd, ns, at' + 1, big, _, cnt, upd_same, ?_, hl, h63, hb, sd.1, sd.2⟩
          rw [upd_ne hl, upd_ne hl]; exact h2
      · refine tail _ _ ⟨none, rfl, .refl _ _, ns, at', big, seed, cnt, h1, h2, hl, h63, hb, h0, h9⟩
    · exact tail _ _ ⟨none, rfl, .refl _ _, ns, at', big, seed, cnt, h1, h2, hl, h63, hb, h0, h9⟩
end
end Ag

namespace Ag
open PySem PySem.Spec PyProof.Rows L2
section
variable {P : Program} {w : World} {K : PySem.W.Frag} {mg : Str → Option Value} {base : Heap}
/-! ### _law_any -/
def spAny (K : PySem.W.Frag) : Sp := fun vs H Q _ => ∃ (b l : Addr) (x : V) (its : List V), vs = [.ref b, x] ∧ Bag H b l ∧ Itm K H b x its ∧ 0 < its.length ∧ its.length < 2 ^ 62 ∧
  ∀ (i : Nat) (v : V) (H' : Hp), its[i]? = some v → Kp b H H' → Bag H' b l → Q v H'
theorem scAny : FnScope ["_law_bag_here", "_law_things"] ["_law_bag_here", "_law_things"] (defScope sAny) := ⟨rfl, rfl, rfl, by decide +kernel, rfl, by decide +kernel, by decide +kernel⟩
theorem ok_any {f : Addr} {fd : FuncData} (F : Fun K "_law_any" "_law_any" sAny f fd) (cP : C8.Cal P w K mg base 1 "_law_pull" spPull []) (ml : mg "len" = none) :
    FnOk P w K mg base CX0 2 f fd ["_law_bag_here", "_law_things"] (spAny K) := by
  refine F.ok scAny (fun vs H Q E h => ?_) (fun cdv A outer s H vs Q E hr h => ?_)
  · obtain ⟨b, l, x, its, rfl, _⟩ := h
    rfl
  obtain ⟨b, l, x, its, rfl, hB, hI, h0, h1, q⟩ := h
  refine ⟨_, pss_one (ps_ret (pe_ix ix_seq (pv 1) (C8.pe_c cP hr (by decide) (by rfl) (pa_cons (pv 0) (pa_cons (pe_callB call_len (by rfl) ml boot_len (pa_cons (pv 1) pa_nil)) pa_nil))) (fun _ _ => rfl))), ?_⟩
  rcases hI with ⟨z, rfl, hz, rfl⟩ | ⟨a, rfl, hab, hs⟩
  · have el : z.length = z.cps.toList.length := by simp [Str.length]
    rw [List.length_map] at h0 h1
    refine ⟨_, rfl, _, rfl, _, rfl, _, z.length, rfl, ⟨hz, rfl⟩, b, l, _, rfl, hB, by omega, by omega, fun d H' hd0 hd1 k hB' => ?_⟩
    have hd : d.toNat < z.cps.toList.length := by omega
    have hat : atI z.cps.toList d = some z.cps.toList[d.toNat] := at_any (by omega) (List.getElem?_eq_getElem hd)
    refine .inr (.inr ⟨z, d, _, rfl, rfl, hz, hat, ?_⟩)
    refine q d.toNat _ H' ?_ k hB'
    rw [List.getElem?_map, List.getElem?_eq_getElem hd]
    rfl
  · have hl : LenV K (.ref a) H its.length := by
      rcases hs with hs | hs
      · exact .inl ⟨_, hs, rfl⟩
      · exact .inr ⟨_, hs, rfl⟩
    refine ⟨_, rfl, _, rfl, _, rfl, _, its.length, rfl, hl, b, l, _, rfl, hB, by omega, by omega, fun d H' hd0 hd1 k hB' => ?_⟩
    have hd : d.toNat < its.length := by omega
    have hg : its[d.toNat]? = some its[d.toNat] := List.getElem?_eq_getElem hd
    have hat : atI its d = some its[d.toNat] := at_of (by omega) hg
    rcases hs with hs | hs
    · exact .inl ⟨a, _, d, _, rfl, rfl, k.seqL hab hs, hat, q _ _ _ hg k hB'⟩
    · exact .inr (.inl ⟨a, _, d, _, rfl, rfl, k.seqT hab hs, hat, q _ _ _ hg k hB'⟩)

/-! ### _law_like: two things that are told by the same data are alike -/
def spLike (K : PySem.W.Frag) (n : Nat) : Sp := fun vs H Q _ => ∃ (x y : V) (d : PyData), vs = [x, y] ∧ Dp K H x d ∧ Dp K H y d ∧ okd n d = true ∧ ∀ H', Same H H' → Q (.bl true) H'
theorem scLike : FnScope ["_law_found", "_law_due", "_law_key", "_law_one", "_law_other"] ["_law_found", "_law_due"] (defScope sLike) := ⟨rfl, rfl, rfl, by decide +kernel, rfl, by decide +kernel, by decide +kernel⟩
structure LikeM (mg : Str → Option Value) : Prop where
  isi : mg "isinstance" = none
  dict : mg "dict" = none
  list : mg "list" = none
  tuple : mg "tuple" = none
  bool : mg "bool" = none
  int : mg "int" = none
  str : mg "str" = none
  len : mg "len" = none
  all : mg "all" = none
  zip : mg "zip" = none
theorem ok_like {n : Nat} {f : Addr} {fd : FuncData} (F : Fun K "_law_like" "_law_like" sLike f fd) (cG : C8.Cal P w K mg base n "_law_like" (spLike K n) []) (M : LikeM mg) :
    FnOk P w K mg base CX0 (n + 1) f fd ["_law_found", "_law_due"] (spLike K (n + 1)) := by
  refine F.ok scLike (fun vs H Q E h => ?_) (fun cdv A outer s H vs Q E hr h => ?_)
  · obtain ⟨x, y, d, rfl, _⟩ := h
    rfl
  obtain ⟨x, y, d, rfl, hx, hy, hok, q⟩ := h
  have nd := scLike.nd
  refine ⟨_, pss_cons (ps_if (pt_val (pe_callB call_isi (by rfl) M.isi (by decide +kernel) (pa_cons (pv 1) (pa_cons (pe_bltn (v := .ty "dict") (u := .type "dict") (by rfl) M.dict (by decide +kernel) rfl) pa_nil)))) pss_never pss_nil)
    (pss_cons (ps_if (pt_val (pe_callB call_isiT (by rfl) M.isi (by decide +kernel) (pa_cons (pv 1) (pa_cons (pe_tup (pa_cons (pe_bltn (v := .ty "list") (u := .type "list") (by rfl) M.list (by decide +kernel) rfl) (pa_cons (pe_bltn (v := .ty "tuple") (u := .type "tuple") (by rfl) M.tuple (by decide +kernel) rfl) pa_nil))) pa_nil))))
      (pss_cons (ps_if (PW.pt (pw_or (pt_cmpR op_ne (pe_callB call_isi (by rfl) M.isi (by decide +kernel) (pa_cons (pv 0) (pa_cons (pe_bltn (v := .ty "list") (u := .type "list") (by rfl) M.list (by decide +kernel) rfl) pa_nil))) (pe_callB call_isi (by rfl) M.isi (by decide +kernel) (pa_cons (pv 1) (pa_cons (pe_bltn (v := .ty "list") (u := .type "list") (by rfl) M.list (by decide +kernel) rfl) pa_nil))) (nomark _))
          (pw_or1 (pt_cmpR op_ne (pe_callB call_isi (by rfl) M.isi (by decide +kernel) (pa_cons (pv 0) (pa_cons (pe_bltn (v := .ty "tuple") (u := .type "tuple") (by rfl) M.tuple (by decide +kernel) rfl) pa_nil))) (pe_callB call_isi (by rfl) M.isi (by decide +kernel) (pa_cons (pv 1) (pa_cons (pe_bltn (v := .ty "tuple") (u := .type "tuple") (by rfl) M.tuple (by decide +kernel) rfl) pa_nil))) (nomark _))))) (pss_one (ps_ret pe_bl)) pss_nil)
      (pss_one (ps_ret (pe_and (pe_cmpR op_eq (pe_callB call_len (by rfl) M.len boot_len (pa_cons (pv 0) pa_nil)) (pe_callB call_len (by rfl) M.len boot_len (pa_cons (pv 1) pa_nil)) (nomark _))
        (pe_one (pe_callB (cr_all rfl) (by rfl) M.all (by decide +kernel) (pa_cons (pe_lc (own := [("_law_one", 3), ("_law_other", 4)]) (g := gTup K 2 (gCons (gName 3) (gCons (gName 4) gNil))) (tt := tYes) rfl nd (RZ.pi_zipA (by rfl) M.zip (pa_cons (pv 0) (pa_cons (pv 1) pa_nil))) (blkOk_by (own := [("_law_one", 3), ("_law_other", 4)]) (N := ["_law_found", "_law_due", "_law_key", "_law_one", "_law_other"]) (sc := defScope sLike) (by decide +kernel))
          (fun _ _ _ _ _ => pg_tup rfl (pgs_cons (pg_name (i := 3) nd rfl (Or.inl rfl)) (pgs_cons (pg_name (i := 4) nd rfl (Or.inl rfl)) pgs_nil))) (fun _ _ _ _ _ => pts_nil) (fun _ _ _ _ _ => C8.pe_c cG hr (Nat.le_refl n) (by rfl) (pa_cons (pv 3) (pa_cons (pv 4) pa_nil)))) pa_nil))))))) pss_nil)
    (pss_cons (ps_if (PW.pt (pw_or (pt_cmp (pc_isN (pv 1)) rfl) (pw_or1 (pt_cmp (pc_isN (pv 0)) rfl)))) (pss_one (ps_ret (pe_and (pe_cmp (pc_isN (pv 1)) rfl) (pe_one (pe_cmp (pc_isN (pv 0)) rfl))))) pss_nil)
    (pss_cons (ps_if (PW.pt (pw_or (pt_cmpR op_ne (pe_callB call_isi (by rfl) M.isi (by decide +kernel) (pa_cons (pv 0) (pa_cons (pe_bltn (v := .ty "bool") (u := .type "bool") (by rfl) M.bool (by decide +kernel) rfl) pa_nil))) (pe_callB call_isi (by rfl) M.isi (by decide +kernel) (pa_cons (pv 1) (pa_cons (pe_bltn (v := .ty "bool") (u := .type "bool") (by rfl) M.bool (by decide +kernel) rfl) pa_nil))) (nomark _))
          (pw_or1 (pt_cmpR op_ne (pe_callB call_isi (by rfl) M.isi (by decide +kernel) (pa_cons (pv 0) (pa_cons (pe_bltn (v := .ty "int") (u := .type "int") (by rfl) M.int (by decide +kernel) rfl) pa_nil))) (pe_callB call_isi (by rfl) M.isi (by decide +kernel) (pa_cons (pv 1) (pa_cons (pe_bltn (v := .ty "int") (u := .type "int") (by rfl) M.int (by decide +kernel) rfl) pa_nil))) (nomark _))))) (pss_one (ps_ret pe_bl)) pss_nil)
    (pss_one (ps_ret (pe_and (pe_cmpR op_eq (pe_callB call_isi (by rfl) M.isi (by decide +kernel) (pa_cons (pv 0) (pa_cons (pe_bltn (v := .ty "str") (u := .type "str") (by rfl) M.str (by decide +kernel) rfl) pa_nil))) (pe_callB call_isi (by rfl) M.isi (by decide +kernel) (pa_cons (pv 1) (pa_cons (pe_bltn (v := .ty "str") (u := .type "str") (by rfl) M.str (by decide +kernel) rfl) pa_nil))) (nomark _))
      (pe_one (pe_cmpR op_eq (pv 0) (pv 1) (nomark _))))))))), ?_⟩
  have kd := kit_some (d := d)
  -- isinstance(due, dict)
  refine ⟨_, rfl, y, .ty "dict", _, .type "dict", _, rfl, .ty _, dp_tyx hy, isk kd.1, _, rfl, iteE (isD_dict hok) ?_⟩
  -- isinstance(due, (list, tuple))
  refine ⟨_, rfl, (by show 2 ≤ sizeLine; decide), fun p np => ⟨y, p, _, _, _, _, rfl, upd_same, ct2, dp_tyx (Dp_same (same_new np _) hy), iskT, _, rfl, ?_⟩⟩
  have s1 : Same H (upd H p (.tup [.ty "list", .ty "tuple"])) := same_new np _
  replace hx := Dp_same s1 hx
  replace hy := Dp_same s1 hy
  have isn : ∀ T, (decide (V.bl (isD T d) = V.bl (isD T d))) = true := fun T => by simp
  by_cases hseq : (∃ ds, d = .list ds) ∨ ∃ ds, d = .tuple ds
  · refine iteU (isD_seq hseq) ?_
    refine ⟨_, rfl, x, .ty "list", _, .type "list", _, rfl, .ty _, dp_tyx hx, isk kd.2.1, _, rfl, y, .ty "list", _, .type "list", _, rfl, .ty _, dp_tyx hy, isk kd.2.1, rfl, _, rfl, iteNS rfl ?_⟩
    refine ⟨_, rfl, x, .ty "tuple", _, .type "tuple", _, rfl, .ty _, dp_tyx hx, isk kd.2.2.1, _, rfl, y, .ty "tuple", _, .type "tuple", _, rfl, .ty _, dp_tyx hy, isk kd.2.2.1, rfl, _, rfl, iteNS rfl ?_⟩
    rcases hseq with ⟨ds, rfl⟩ | ⟨ds, rfl⟩
    · simp only [okd, Bool.and_eq_true, decide_eq_true_eq, List.all_eq_true] at hok
      cases hx with
      | @lst a xs _ q1 a1 =>
        cases hy with
        | @lst c ys _ q2 a2 =>
          have l1 := dpall_len a1
          have l2 := dpall_len a2
          have eln : decide (V.int (xs.length : Nat) = V.int (ys.length : Nat)) = true := by rw [l1, l2]; exact decide_eq_true rfl
          refine ⟨_, rfl, _, xs.length, rfl, .inl ⟨_, q1, rfl⟩, _, rfl, _, ys.length, rfl, .inl ⟨_, q2, rfl⟩, rfl, _, rfl, iteU eln ?_⟩
          refine ⟨_, rfl, _, rfl, a, c, xs, ys, rfl, .inl ⟨q1, q2, fun D nD => ?_⟩⟩
          refine lc_it (walk_zip (n := ds.length) (by omega)) (fun i H' => Same (upd H p (.tup [.ty "list", .ty "tuple"])) H' ∧ H' D = some (.lst (List.replicate i (.bl true)))) ⟨same_new nD _, upd_same⟩
            (fun i H' _ pv => ⟨Same.seq pv.1 q1, Same.seq pv.1 q2⟩) ?_ ?_
          · rintro i v H1 H2 hi ⟨g1, g2⟩ ⟨T, u, v', rfl, nT, rfl, hu, hv⟩
            obtain ⟨e, he, de⟩ := dpall_get a1 hu
            obtain ⟨e', he', de'⟩ := dpall_get a2 hv
            have ee : e' = e := by rw [he] at he'; exact (Option.some.inj he').symm
            subst ee
            have g3 := same_new nT (.tup [u, v'])
            have g4 := g1.trans g3
            refine ⟨T, [u, v'], rfl, SqT.of upd_same, rfl, u, [v'], rfl, v', [], rfl, rfl, rfl, ?_⟩
            refine ⟨_, rfl, _, rfl, u, v', e', rfl, Dp_same g4 de, Dp_same g4 de', hok.2 _ (List.mem_of_getElem? he), fun H3 g5 => ?_⟩
            have hD3 := g5 _ _ (g3 _ _ g2)
            have hil : i < sizeLine := small1000 (by omega)
            refine ⟨_, hD3, (by rw [List.length_replicate]; exact hil), fun b o hb => ?_, ?_⟩
            · have nb : b ≠ D := ne_of_none hb nD
              rw [upd_ne nb]
              exact g5 _ _ (g4 _ _ hb)
            · rw [upd_same, List.replicate_succ']
          · rintro H' ⟨g1, g2⟩
            refine ⟨D, List.replicate ds.length true, rfl, SqL.of (by rw [g2, rep_bl]), ?_⟩
            rw [rep_all]
            exact q _ (s1.trans g1)
    · simp only [okd, Bool.and_eq_true, decide_eq_true_eq, List.all_eq_true] at hok
      cases hx with
      | @tup a xs _ q1 a1 =>
        cases hy with
        | @tup c ys _ q2 a2 =>
          have l1 := dpall_len a1
          have l2 := dpall_len a2
          have eln : decide (V.int (xs.length : Nat) = V.int (ys.length : Nat)) = true := by rw [l1, l2]; exact decide_eq_true rfl
          refine ⟨_, rfl, _, xs.length, rfl, .inr ⟨_, q1, rfl⟩, _, rfl, _, ys.length, rfl, .inr ⟨_, q2, rfl⟩, rfl, _, rfl, iteU eln ?_⟩
          refine ⟨_, rfl, _, rfl, a, c, xs, ys, rfl, .inr ⟨q1, q2, fun D nD => ?_⟩⟩
          refine lc_it (walk_zipT (n := ds.length) (by omega)) (fun i H' => Same (upd H p (.tup [.ty "list", .ty "tuple"])) H' ∧ H' D = some (.lst (List.replicate i (.bl true)))) ⟨same_new nD _, upd_same⟩
            (fun i H' _ pv => ⟨sameT pv.1 q1, sameT pv.1 q2⟩) ?_ ?_
          · rintro i v H1 H2 hi ⟨g1, g2⟩ ⟨T, u, v', rfl, nT, rfl, hu, hv⟩
            obtain ⟨e, he, de⟩ := dpall_get a1 hu
            obtain ⟨e', he', de'⟩ := dpall_get a2 hv
            have ee : e' = e := by rw [he] at he'; exact (Option.some.inj he').symm
            subst ee
            have g3 := same_new nT (.tup [u, v'])
            have g4 := g1.trans g3
            refine ⟨T, [u, v'], rfl, SqT.of upd_same, rfl, u, [v'], rfl, v', [], rfl, rfl, rfl, ?_⟩
            refine ⟨_, rfl, _, rfl, u, v', e', rfl, Dp_same g4 de, Dp_same g4 de', hok.2 _ (List.mem_of_getElem? he), fun H3 g5 => ?_⟩
            have hD3 := g5 _ _ (g3 _ _ g2)
            have hil : i < sizeLine := small1000 (by omega)
            refine ⟨_, hD3, (by rw [List.length_replicate]; exact hil), fun b o hb => ?_, ?_⟩
            · have nb : b ≠ D := ne_of_none hb nD
              rw [upd_ne nb]
              exact g5 _ _ (g4 _ _ hb)
            · rw [upd_same, List.replicate_succ']
          · rintro H' ⟨g1, g2⟩
            refine ⟨D, List.replicate ds.length true, rfl, SqL.of (by rw [g2, rep_bl]), ?_⟩
            rw [rep_all]
            exact q _ (s1.trans g1)
  · refine iteE (isD_leaf (fun ds e => hseq (.inl ⟨ds, e⟩)) (fun ds e => hseq (.inr ⟨ds, e⟩))) ?_
    have nl : ∀ ds, d ≠ .list ds := fun ds e => hseq (.inl ⟨ds, e⟩)
    have nt : ∀ ds, d ≠ .tuple ds := fun ds e => hseq (.inr ⟨ds, e⟩)
    have exy : x = y ∧ ((scal x y = true ∧ decide (x = .non) = false) ∨ x = .non) := by
      cases hx with
      | non => cases hy; exact ⟨rfl, .inr rfl⟩
      | bl b => cases hy; exact ⟨rfl, .inl ⟨rfl, rfl⟩⟩
      | int b => cases hy; exact ⟨rfl, .inl ⟨rfl, rfl⟩⟩
      | str b => cases hy; exact ⟨rfl, .inl ⟨rfl, rfl⟩⟩
      | lst _ _ => exact absurd rfl (nl _)
      | tup _ _ => exact absurd rfl (nt _)
    obtain ⟨rfl, hsc⟩ := exy
    rcases hsc with ⟨hsc, en⟩ | hn
    · refine ⟨_, rfl, _, rfl, iteE en ⟨_, rfl, _, rfl, iteE en ?_⟩⟩
      refine ⟨_, rfl, x, .ty "bool", _, .type "bool", _, rfl, .ty _, dp_tyx hx, isk kd.2.2.2.1, _, rfl, x, .ty "bool", _, .type "bool", _, rfl, .ty _, dp_tyx hy, isk kd.2.2.2.1, rfl, _, rfl, iteNS rfl ?_⟩
      refine ⟨_, rfl, x, .ty "int", _, .type "int", _, rfl, .ty _, dp_tyx hx, isk kd.2.2.2.2.1, _, rfl, x, .ty "int", _, .type "int", _, rfl, .ty _, dp_tyx hy, isk kd.2.2.2.2.1, rfl, _, rfl, iteNS rfl ?_⟩
      refine ⟨_, rfl, x, .ty "str", _, .type "str", _, rfl, .ty _, dp_tyx hx, isk kd.2.2.2.2.2, _, rfl, x, .ty "str", _, .type "str", _, rfl, .ty _, dp_tyx hy, isk kd.2.2.2.2.2, rfl, _, rfl, iteU (isn _) ?_⟩
      refine ⟨_, rfl, _, rfl, hsc, ?_⟩
      rw [decide_eq_true rfl]
      exact q _ s1
    · subst hn
      refine ⟨_, rfl, _, rfl, iteU rfl ⟨_, rfl, _, rfl, iteU rfl ⟨_, rfl, ?_⟩⟩⟩
      exact q _ s1
theorem no_like0 (vs : List V) (H : Hp) (Q : VK) (E : XK) : ¬ spLike K 0 vs H Q E := by
  rintro ⟨x, y, d, _, _, _, h, _⟩
  cases h
theorem like_cal {f : Addr} {fd : FuncData} (F : Fun K "_law_like" "_law_like" sLike f fd) (b : Binds K fd ["_law_found", "_law_due"] []) (m : mg "_law_like" = some (.ref f)) (M : LikeM mg) : ∀ n : Nat, C8.Cal P w K mg base n "_law_like" (spLike K n) []
  | 0 => ⟨f, fd, ["_law_found", "_law_due"], [], ⟨fun vs H Q E h => absurd h (no_like0 vs H Q E), fun A outer s H args us vs Q E _ _ _ _ h => absurd h (no_like0 vs H Q E)⟩, m, F.kp, b, .nil⟩
  | n + 1 => ⟨f, fd, ["_law_found", "_law_due"], [], ok_like F (like_cal F b m M n) M, m, F.kp, b, .nil⟩
end
end Ag

namespace Ag
open PySem PySem.Spec PyProof.Rows L2
section
variable {P : Program} {w : World} {K : PySem.W.Frag} {mg : Str → Option Value} {base : Heap}
/-! ### _law_names -/
def spNames : Sp := fun vs H Q _ => ∃ (b l : Addr) (m : Nat), vs = [.ref b, .int (m : Int)] ∧ Bag H b l ∧ m ≤ 1000 ∧
  ∀ (r : Addr) (ws : List (List Nat)) (H' : Hp), Nms m ws → H r = none → Kp b H H' → Bag H' b l → H' r = some (.lst (ws.map fun w => V.str (SX.S w))) → Q (.ref r) H'
theorem scNames : FnScope ["_law_bag_here", "_law_many", "_law_letters", "_law_k", "_law_stem", "_law_at", "_law_first"] ["_law_bag_here", "_law_many"] (defScope sNames) := ⟨rfl, rfl, rfl, by decide +kernel, rfl, by decide +kernel, by decide +kernel⟩
structure NamesM (mg : Str → Option Value) : Prop where
  range : mg "range" = none
  int : mg "int" = none
  len : mg "len" = none
theorem ok_names {f : Addr} {fd : FuncData} (F : Fun K "_law_names" "_law_names" sNames f fd) (cP : C8.Cal P w K mg base 1 "_law_pull" spPull []) (cA : C8.Cal P w K mg base 2 "_law_any" (spAny K) []) (M : NamesM mg) : FnOk P w K mg base CX0 3 f fd ["_law_bag_here", "_law_many"] spNames := by
  refine F.ok scNames (fun vs H Q E h => ?_) (fun cdv A outer s H vs Q E hr h => ?_)
  · obtain ⟨b, l, m, rfl, _⟩ := h
    rfl
  obtain ⟨b, l, m, rfl, hB, hm, q⟩ := h
  have nd := scNames.nd
  refine ⟨_, pss_cons (ps_set (i := 2) nd rfl (.inr rfl) pe_str)
    (pss_cons (ps_set (i := 4) nd rfl (.inr rfl) (pe_join pe_str (pe_lc (own := [("_law_k", 3)]) (g := gName 3) (tt := tYes) rfl nd (pi_range1 (by rfl) M.range (pa_cons (C8.pe_c cP hr (by decide) (by rfl) (pa_cons (pv 0) (pa_cons pe_int pa_nil))) pa_nil))
      (blkOk_by (own := [("_law_k", 3)]) (N := ["_law_bag_here", "_law_many", "_law_letters", "_law_k", "_law_stem", "_law_at", "_law_first"]) (sc := defScope sNames) (by decide +kernel)) (fun _ _ _ _ _ => pg_name (i := 3) nd rfl (Or.inl rfl)) (fun _ _ _ _ _ => pts_nil)
      (fun _ _ _ _ _ => C8.pe_c cA hr (by decide) (by rfl) (pa_cons (pv 0) (pa_cons (pv 2) pa_nil))))))
    (pss_cons (ps_asg (pe_tup (pa_cons (C8.pe_c cP hr (by decide) (by rfl) (pa_cons (pv 0) (pa_cons (pe_op op_add (pe_callB call_len (by rfl) M.len boot_len (pa_cons (pv 4) pa_nil)) pe_int) pa_nil))) (pa_cons (C8.pe_c cP hr (by decide) (by rfl) (pa_cons (pv 0) (pa_cons pe_int pa_nil))) pa_nil)))
      (pg_tup rfl (pgs_cons (pg_name (i := 5) nd rfl (.inr rfl)) (pgs_cons (pg_name (i := 6) nd rfl (.inr rfl)) pgs_nil))))
    (pss_one (ps_ret (pe_lc (own := [("_law_k", 3)]) (g := gName 3) (tt := tYes) rfl nd (pi_range1 (by rfl) M.range (pa_cons (pv 1) pa_nil))
      (blkOk_by (own := [("_law_k", 3)]) (N := ["_law_bag_here", "_law_many", "_law_letters", "_law_k", "_law_stem", "_law_at", "_law_first"]) (sc := defScope sNames) (by decide +kernel)) (fun _ _ _ _ _ => pg_name (i := 3) nd rfl (Or.inl rfl)) (fun _ _ _ _ _ => pts_nil)
      (fun _ _ _ _ _ => pe_op op_add_str (pe_op op_add_str (pe_slice C8.sl_txt (pv 4) po_none (po_some (pv 5))) (pe_ix ix_str (pv 2) (pe_op op_modN (pe_callTy call_int1 (by rfl) M.int (by decide +kernel) (pa_cons (pe_op op_add (pv 6) (pe_op op_mul pe_int (pv 3))) pa_nil)) pe_int) (fun _ _ => rfl))) (pe_slice C8.sl_txt (pv 4) (po_some (pv 5)) po_none))))))), ?_⟩
  -- the stem's length, its signs
  refine ⟨⟨_, rfl⟩, _, rfl, b, l, 5, rfl, hB, by decide, by decide, fun d H1 hd0 hd1 k1 B1 => ?_⟩
  refine ⟨d, rfl, by omega, by omega, fun D nD => ?_⟩
  have nDb := B1.new nD
  refine lc_range (lo := 0) (n := d.toNat) (fun i H' => ∃ cs : List Nat, Low cs ∧ cs.length = i ∧ Kp b H H' ∧ Bag H' b l ∧ H' D = some (.lst ((cs.map fun c => (⟨#[c]⟩ : Str)).map V.str))) ⟨[], fun c hc => (by cases hc), rfl, k1.trans (.of (same_new nD _)), B1.kp (same_new nD _), upd_same⟩ ?_ ?_
  · rintro i H2 hi ⟨cs, hlow, hcl, k2, B2, hD⟩
    refine ⟨rfl, _, rfl, _, rfl, b, l, _, abc.map (fun c => V.str ⟨#[c]⟩), rfl, B2, .inl ⟨_, rfl, (by rw [abc_str, SX.S_len, abc_len]; decide), by rw [abc_str]⟩, by rw [List.length_map, abc_len]; decide, by rw [List.length_map, abc_len]; decide, fun j v H3 hv k3 B3 => ?_⟩
    rw [List.getElem?_map] at hv
    obtain ⟨c, hc, rfl⟩ := Option.map_eq_some_iff.mp hv
    have hcl' : Low [c] := .one (abc_mem.mp (List.mem_of_getElem? hc))
    have hD3 := k3 _ _ hD nDb.1
    refine ⟨_, hD3, (by rw [List.length_map, List.length_map, hcl]; exact small1000 (by omega)), cs ++ [c], hlow.app hcl', by rw [List.length_append, hcl]; rfl, ?_, ?_, ?_⟩
    · exact (k2.trans k3).upd (k1.free nDb.1 nD)
    · exact B3.upd nDb.1 nDb.2
    · rw [upd_same, List.map_append, List.map_append]
      rfl
  · rintro H2 ⟨cs, hlow, hcl, k2, B2, hD⟩
    have sz : ((cs.map fun c => (⟨#[c]⟩ : Str)).map (·.length)).sum + (cs.map fun c => (⟨#[c]⟩ : Str)).length * (Str.ofString "").length ≤ 16777216 := by
      have e1 : ∀ l : List Nat, ((l.map fun c => (⟨#[c]⟩ : Str)).map (·.length)).sum = l.length := fun l => by
        induction l with
        | nil => rfl
        | cons c r ih =>
          rw [List.map_cons, List.map_cons, List.sum_cons, ih, List.length_cons]
          show 1 + r.length = r.length + 1
          omega
      have e2 : (Str.ofString "").length = 0 := rfl
      rw [e1, e2]
      omega
    refine ⟨_, D, _, rfl, rfl, .inl (SqL.of hD), sz, ?_⟩
    rw [join_signs]
    have hz : (SX.S cs).length ≤ sizeLine := by rw [SX.S_len]; exact small (by omega)
    -- at, first
    refine ⟨_, rfl, _, rfl, _, (SX.S cs).length, rfl, ⟨hz, rfl⟩, _, _, rfl, rfl, b, l, _, rfl, B2, by omega, by rw [SX.S_len]; omega, fun at' H3 ha0 ha1 k3 B3 => ?_⟩
    refine ⟨_, rfl, b, l, 26, rfl, B3, by decide, by decide, fun fi H4 hf0 hf1 k4 B4 => ?_⟩
    refine ⟨(by show 2 ≤ sizeLine; decide), fun t nt => ⟨t, _, rfl, SqT.of upd_same, rfl, _, _, rfl, _, _, rfl, rfl, ?_⟩⟩
    rw [SX.S_len] at ha1
    have nt' := B4.new nt
    have B5 := B4.kp (same_new nt (.tup [.int at', .int fi]))
    have k5 : Kp b H (upd H4 t (.tup [.int at', .int fi])) := (k2.trans (k3.trans k4)).trans (.of (same_new nt _))
    -- the names
    refine ⟨_, rfl, (m : Int), rfl, by omega, by omega, fun R nR => ?_⟩
    have nR' := B5.new nR
    have hR0 : H R = none := k5.free nR'.1 nR
    refine lc_range (lo := 0) (n := (m : Int).toNat) (fun i H' => Kp b H H' ∧ Bag H' b l ∧ H' R = some (.lst (((List.range i).map (nm cs at'.toNat fi.toNat)).map fun w => V.str (SX.S w)))) ⟨k5.upd hR0, B5.upd nR'.1 nR'.2, upd_same⟩ ?_ ?_
    · rintro i H6 hi ⟨k6, B6, hR⟩
      refine ⟨rfl, ?_⟩
      have him : i < m := by omega
      have e5 : ((fi + 5 * (0 + (i : Int))).fmod 26) = (((fi.toNat + 5 * i) % 26 : Nat) : Int) := by
        rw [Int.fmod_eq_emod_of_nonneg _ (by decide)]
        omega
      have hat : atI ("abcdefghijklmnopqrstuvwxyz" : Str).cps.toList ((fi + 5 * (0 + (i : Int))).fmod 26) = some (97 + (fi.toNat + 5 * i) % 26) := by
        rw [e5, abc_str]
        refine atI_nat ?_
        show abc[(fi.toNat + 5 * i) % 26]? = _
        rw [abc_at (Nat.mod_lt _ (by decide)), Nat.add_comm]
      have hz26 : ("abcdefghijklmnopqrstuvwxyz" : Str).length ≤ sizeLine := by rw [abc_str, SX.S_len, abc_len]; decide
      refine ⟨_, rfl, _, rfl, at', rfl, SX.S cs, rfl, hz, ?_⟩
      rw [SX.slice_to ha0]
      refine ⟨_, rfl, _, rfl, _, rfl, _, _, rfl, rfl, .inl ⟨by decide, by decide⟩, _, _, rfl, rfl, .inl ⟨_, rfl, _, _, rfl, rfl, (by show (26 : Int) ≠ 0; decide), _, _, _, rfl, rfl, hz26, hat, ?_⟩⟩
      refine ⟨_, _, rfl, rfl, (by rw [SX.S_len, List.length_take]; show min _ _ + 1 ≤ sizeLine; exact small (by omega)), ?_⟩
      have ec1 : SX.S (cs.take at'.toNat) ++ (⟨#[97 + (fi.toNat + 5 * i) % 26]⟩ : Str) = SX.S (cs.take at'.toNat ++ [97 + (fi.toNat + 5 * i) % 26]) := SX.S_cat _ [_]
      rw [ec1]
      refine ⟨_, rfl, _, rfl, at', rfl, SX.S cs, rfl, hz, ?_⟩
      rw [SX.slice_from ha0]
      refine ⟨_, _, rfl, rfl, (by rw [SX.S_len, SX.S_len, List.length_append, List.length_take, List.length_drop, List.length_singleton]; exact small (by omega)), ?_⟩
      rw [SX.S_cat]
      refine ⟨_, hR, (by rw [List.length_map, List.length_map, List.length_range]; exact small1000 (by omega)), k6.upd hR0, B6.upd nR'.1 nR'.2, ?_⟩
      rw [upd_same, List.range_succ, List.map_append, List.map_append]
      rfl
    · rintro H6 ⟨k6, B6, hR⟩
      rw [Int.toNat_natCast] at hR
      exact q R _ H6 ⟨cs, at'.toNat, fi.toNat, hlow, by omega, by omega, by omega, rfl⟩ hR0 k6 B6 hR
end
end Ag

namespace Ag
open PySem PySem.Spec PyProof.Rows L2
abbrev sLetter : Stmt := top 3
abbrev sName : Stmt := top 4
section
variable {P : Program} {w : World} {K : PySem.W.Frag} {mg : Str → Option Value} {base : Heap}
structure NameM (mg : Str → Option Value) : Prop where
  isi : mg "isinstance" = none
  str : mg "str" = none
  len : mg "len" = none
  all : mg "all" = none
  letters : ∃ t, mg "LETTERS" = some (.str "abcdefghijklmnopqrstuvwxyz" t)
  longest : ∃ t, mg "LONGEST_NAME" = some (.int 6 t)
/-! ### is_letter -/
def spLetter (K : PySem.W.Frag) : Sp := fun vs H Q _ => ∃ x ok, vs = [x] ∧ LetIs K H x ok ∧ Q (.bl ok) H
theorem scLetter : FnScope ["value"] ["value"] (defScope sLetter) := ⟨rfl, rfl, rfl, by decide +kernel, rfl, by decide +kernel, by decide +kernel⟩
theorem ok_letter {f : Addr} {fd : FuncData} (F : Fun K "is_letter" "is_letter" sLetter f fd) (M : NameM mg) : FnOk P w K mg base CX0 1 f fd ["value"] (spLetter K) := by
  refine F.ok scLetter (fun vs H Q E h => ?_) (fun cdv A outer s H vs Q E hr h => ?_)
  · obtain ⟨x, ok, rfl, _⟩ := h
    rfl
  obtain ⟨x, ok, rfl, h, q⟩ := h
  obtain ⟨tL, mL⟩ := M.letters
  refine ⟨_, pss_one (ps_ret (pe_and (pe_callB call_isi (by rfl) M.isi (by decide +kernel) (pa_cons (pv 0) (pa_cons (pe_bltn (v := .ty "str") (u := .type "str") (by rfl) M.str (by decide +kernel) rfl) pa_nil)))
    (pe_and (pe_cmpR op_eq (pe_callB call_len (by rfl) M.len boot_len (pa_cons (pv 0) pa_nil)) pe_int (nomark _)) (pe_one (pe_cmpR op_in_str (pv 0) (pe_glob (v := .str "abcdefghijklmnopqrstuvwxyz") (by rfl) mL ⟨_, rfl⟩) (by rfl)))))), ?_⟩
  rcases h with ⟨cs, rfl, hl, rfl⟩ | ⟨⟨t, ht, hk⟩, rfl⟩
  · refine ⟨_, rfl, _, .ty "str", _, .type "str", true, rfl, .ty _, .base (.str _), kit_ty (by decide +kernel), _, rfl, iteT ?_⟩
    refine ⟨_, rfl, _, (SX.S cs).length, rfl, ⟨by rw [SX.S_len]; exact small hl, rfl⟩, rfl, _, rfl, ?_⟩
    rw [SX.S_len]
    refine ite2 (fun c => ?_) (fun c => ?_)
    · have c1 : cs.length = 1 := by
        have z := of_decide_eq_true c
        injection z with z
        omega
      refine ⟨_, rfl, _, _, rfl, rfl, ?_⟩
      rw [abc_str, isLet_in cs c1]
      exact q
    · have e : isLet cs = false := by
        unfold isLet
        rw [decide_eq_false, Bool.false_and]
        intro z
        exact c (decide_eq_true (congrArg V.int (by rw [z]; rfl)))
      rw [e] at q
      exact q
  · refine ⟨_, rfl, _, .ty "str", _, .type "str", false, rfl, .ty _, ht, hk, _, rfl, iteF ?_⟩
    exact q
/-! ### is_name -/
def spName (K : PySem.W.Frag) : Sp := fun vs H Q _ => ∃ x ok, vs = [x] ∧ NameIs K H x ok ∧ ∀ H', Same H H' → Q (.bl ok) H'
theorem scName : FnScope ["value", "letter"] ["value"] (defScope sName) := ⟨rfl, rfl, rfl, by decide +kernel, rfl, by decide +kernel, by decide +kernel⟩
theorem ok_name {f : Addr} {fd : FuncData} (F : Fun K "is_name" "is_name" sName f fd) (cL : C8.Cal P w K mg base 1 "is_letter" (spLetter K) []) (M : NameM mg) : FnOk P w K mg base CX0 2 f fd ["value"] (spName K) := by
  refine F.ok scName (fun vs H Q E h => ?_) (fun cdv A outer s H vs Q E hr h => ?_)
  · obtain ⟨x, ok, rfl, _⟩ := h
    rfl
  obtain ⟨x, ok, rfl, h, q⟩ := h
  obtain ⟨tL, mL⟩ := M.longest
  have nd := scName.nd
  refine ⟨_, pss_cons (ps_if (PW.pt (pw_or (pt_not (pt_val (pe_callB call_isi (by rfl) M.isi (by decide +kernel) (pa_cons (pv 0) (pa_cons (pe_bltn (v := .ty "str") (u := .type "str") (by rfl) M.str (by decide +kernel) rfl) pa_nil)))))
      (pw_or1 (pt_not (pt_chain op_le op_le pe_int (pe_callB call_len (by rfl) M.len boot_len (pa_cons (pv 0) pa_nil)) (pe_glob (v := .int 6) (by rfl) mL ⟨_, rfl⟩)))))) (pss_one (ps_ret pe_bl)) pss_nil)
    (pss_one (ps_ret (pe_callB (cr_all rfl) (by rfl) M.all (by decide +kernel) (pa_cons (pe_lc (own := [("letter", 1)]) (g := gName 1) (tt := tYes) rfl nd (pi_str (pv 0))
      (blkOk_by (own := [("letter", 1)]) (N := ["value", "letter"]) (sc := defScope sName) (by decide +kernel)) (fun _ _ _ _ _ => pg_name (i := 1) nd rfl (Or.inl rfl)) (fun _ _ _ _ _ => pts_nil)
      (fun _ _ _ _ _ => C8.pe_c cL hr (by decide) (by rfl) (pa_cons (pv 1) pa_nil))) pa_nil)))), ?_⟩
  rcases h with ⟨cs, rfl, hl, rfl⟩ | ⟨⟨t, ht, hk⟩, rfl⟩
  · refine ⟨_, rfl, _, .ty "str", _, .type "str", true, rfl, .ty _, .base (.str _), kit_ty (by decide +kernel), _, rfl, ?_⟩
    refine iteF ?_
    refine ⟨_, rfl, _, (SX.S cs).length, rfl, ⟨by rw [SX.S_len]; exact small hl, rfl⟩, _, _, rfl, rfl, _, rfl, ?_⟩
    rw [SX.S_len]
    have qf : isNm cs = false → Q (.bl false) H := fun e => by
      have z := q H (.refl H)
      rw [e] at z
      exact z
    refine ite2 (fun c1 => ?_) (fun c1 => ?_)
    · refine ⟨_, _, rfl, rfl, _, rfl, ite2 (fun c2 => ?_) (fun c2 => ?_)⟩
      · refine qf ?_
        unfold isNm
        rw [decide_eq_false (p := cs.length ≤ 6), Bool.and_false, Bool.false_and]
        intro z
        simp only [Bool.not_eq_true', decide_eq_false_iff_not] at c2
        omega
      · have c3 : cs.length ≤ 6 := by
          simp only [Bool.not_eq_true', decide_eq_false_iff_not] at c2
          omega
        have c4 : 1 ≤ cs.length := by
          have z := of_decide_eq_true c1
          omega
        have ez : (SX.S cs).cps.size = cs.length := by simp
        refine ⟨_, rfl, SX.S cs, rfl, fun D nD => ?_⟩
        refine lc_it (walk_str (z := SX.S cs)) (fun i H' => Same H H' ∧ H' D = some (.lst (((cs.take i).map fun c => decide (97 ≤ c) && decide (c < 123)).map V.bl))) ⟨same_new nD _, upd_same⟩ (fun _ _ _ _ => trivial) ?_ ?_
        · rintro i v H1 H2 hi ⟨g1, g2⟩ ⟨rfl, c, hc, rfl⟩
          have hc' : cs[i]? = some c := by simpa using hc
          have hil : i < cs.length := (List.getElem?_eq_some_iff.mp hc').1
          refine ⟨rfl, ?_⟩
          refine ⟨_, rfl, _, _, rfl, .inl ⟨[c], rfl, by show 1 ≤ 1000; decide, rfl⟩, ?_⟩
          have e1 : isLet [c] = (decide (97 ≤ c) && decide (c < 123)) := by simp [isLet]
          rw [e1]
          refine ⟨_, g2, (by rw [List.length_map, List.length_map, List.length_take]; exact small1000 (by omega)), fun b o hb => ?_, ?_⟩
          · rw [upd_ne (ne_of_none hb nD)]
            exact g1 _ _ hb
          · rw [upd_same, List.take_add_one, hc', List.map_append, List.map_append]
            rfl
        · rintro H' ⟨g1, g2⟩
          rw [ez, List.take_length] at g2
          refine ⟨D, cs.map fun c => decide (97 ≤ c) && decide (c < 123), rfl, SqL.of g2, ?_⟩
          have e2 : isNm cs = (cs.map fun c => decide (97 ≤ c) && decide (c < 123)).all id := by
            unfold isNm
            rw [decide_eq_true c3, decide_eq_true c4, List.all_map]
            rfl
          rw [← e2]
          exact q H' g1
    · refine ⟨_, rfl, iteT ?_⟩
      refine qf ?_
      unfold isNm
      rw [decide_eq_false (p := 1 ≤ cs.length), Bool.false_and, Bool.false_and]
      intro z
      exact c1 (decide_eq_true (by omega))
  · refine ⟨_, rfl, _, .ty "str", _, .type "str", false, rfl, .ty _, ht, hk, _, rfl, iteT (iteT ?_)⟩
    exact q H (.refl H)
end
end Ag

namespace Ag
open PySem PySem.Spec PyProof.Rows L2
abbrev sLaw : Stmt := top 11
section
variable {P : Program} {w : World} {K : PySem.W.Frag} {mg : Str → Option Value} {base : Heap}
abbrev nLaw : List Str := ["_law_script", "_law_bag_here", "_law_names_here", "_law_letters", "_law_k", "_law_long", "_law_at", "_law_bent", "_law_odd", "_law_name", "_law_found"]
theorem scLaw : FnScope nLaw ["_law_script"] (defScope sLaw) := ⟨rfl, rfl, rfl, by decide +kernel, rfl, by decide +kernel, by decide +kernel⟩
def spLaw (K : PySem.W.Frag) : Sp := fun vs H Q _ => ∃ (a : Addr) (ns : List Int), vs = [.ref a] ∧ SqL K H a (ns.map V.int) ∧ ns.length ≤ 63 ∧ ∀ H', Q (.bl true) H'
structure Cals (P : Program) (w : World) (K : PySem.W.Frag) (mg : Str → Option Value) (base : Heap) : Prop where
  bag : C8.Cal P w K mg base 1 "_law_bag" (spBag K) []
  pull : C8.Cal P w K mg base 1 "_law_pull" spPull []
  any : C8.Cal P w K mg base 2 "_law_any" (spAny K) []
  names : C8.Cal P w K mg base 3 "_law_names" spNames []
  like : ∀ n, C8.Cal P w K mg base n "_law_like" (spLike K n) []
theorem ok_law {f fN : Addr} {fd fdN : FuncData} (F : Fun K "law" "law" sLaw f fd) (c : Cals P w K mg base) (cN : C8.Cal P w K mg base 2 "is_name" (spName K) []) (GN : FnOk P w K mg base CX0 2 fN fdN ["value"] (spName K)) (mN : mg "is_name" = some (.ref fN)) (kN : PySem.W.keepIn K (.ref fN) = true)
    (bN : KW0 fdN ["value"] ["value"] (fun ws => ws) (fun zs => zs)) (M : NamesM mg) : FnOk P w K mg base CX0 5 f fd ["_law_script"] (spLaw K) := by
  refine F.ok scLaw (fun vs H Q E h => ?_) (fun cdv A outer s H vs Q E hr h => ?_)
  · obtain ⟨a, ns, rfl, _⟩ := h
    rfl
  obtain ⟨a, ns, rfl, hS, h63, q⟩ := h
  have nd := scLaw.nd
  refine ⟨_, pss_cons (ps_set (i := 1) nd rfl (.inr rfl) (C8.pe_c c.bag hr (by decide) (by rfl) (pa_cons (pv 0) pa_nil)))
    (pss_cons (ps_set (i := 2) nd rfl (.inl rfl) (C8.pe_c c.names hr (by decide) (by rfl) (pa_cons (pv 1) (pa_cons pe_int pa_nil))))
    (pss_cons (ps_set (i := 3) nd rfl (.inr rfl) pe_str)
    (pss_cons (ps_set (i := 5) nd rfl (.inl rfl) (pe_join pe_str (pe_lc (own := [("_law_k", 4)]) (g := gName 4) (tt := tYes) rfl nd (pi_range1 (by rfl) M.range (pa_cons (pe_op op_add pe_int (C8.pe_c c.pull hr (by decide) (by rfl) (pa_cons (pv 1) (pa_cons pe_int pa_nil)))) pa_nil))
      (blkOk_by (own := [("_law_k", 4)]) (N := nLaw) (sc := defScope sLaw) (by decide +kernel)) (fun _ _ _ _ _ => pg_name (i := 4) nd rfl (Or.inl rfl)) (fun _ _ _ _ _ => pts_nil)
      (fun _ _ _ _ _ => C8.pe_c c.any hr (by decide) (by rfl) (pa_cons (pv 1) (pa_cons (pv 3) pa_nil))))))
    (pss_cons (ps_set (i := 6) nd rfl (.inl rfl) (C8.pe_c c.pull hr (by decide) (by rfl) (pa_cons (pv 1) (pa_cons (pe_op op_add (pe_callB call_len (by rfl) M.len boot_len (pa_cons (pv 5) pa_nil)) pe_int) pa_nil))))
    (pss_cons (ps_set (i := 7) nd rfl (.inl rfl) (pe_op op_add_str (pe_op op_add_str (pe_slice C8.sl_txt (pv 5) po_none (po_some (pv 6))) (C8.pe_c c.any hr (by decide) (by rfl) (pa_cons (pv 1) (pa_cons (pe_lst (pa_cons pe_str (pa_cons pe_str (pa_cons pe_str (pa_cons pe_str (pa_cons pe_str (pa_cons pe_str (pa_cons pe_str (pa_cons pe_str (pa_cons pe_str pa_nil)))))))))) pa_nil)))) (pe_slice C8.sl_txt (pv 5) (po_some (pv 6)) po_none)))
    (pss_cons (ps_set (i := 8) nd rfl (.inl rfl) (C8.pe_c c.any hr (by decide) (by rfl) (pa_cons (pv 1) (pa_cons (pe_lst (pa_cons pe_non (pa_cons pe_int (pa_cons pe_bl (pa_cons (pe_tup (pa_cons pe_str pa_nil)) (pa_cons (pe_lst (pa_cons pe_str pa_nil)) (pa_cons pe_str (pa_cons (pe_tup pa_nil) pa_nil)))))))) pa_nil))))
    (pss_cons (ps_set (i := 10) nd rfl (.inl rfl) (pe_op op_cat (pe_lc (own := [("_law_name", 9)]) (g := gName 9) (tt := tYes) rfl nd (pi_list (pv 2)) (blkOk_by (own := [("_law_name", 9)]) (N := nLaw) (sc := defScope sLaw) (by decide +kernel)) (fun _ _ _ _ _ => pg_name (i := 9) nd rfl (Or.inl rfl)) (fun _ _ _ _ _ => pts_nil)
      (fun _ _ _ _ _ => C8.pe_c cN hr (by decide) (by rfl) (pa_cons (pv 9) pa_nil)))
      (pe_lst (pa_cons (pe_callW GN (hr.mono (by decide)) (by rfl) mN kN bN pass0 (pk_cons (pv 5) pk_nil)) (pa_cons (C8.pe_c cN hr (by decide) (by rfl) (pa_cons (pv 7) pa_nil)) (pa_cons (C8.pe_c cN hr (by decide) (by rfl) (pa_cons (pv 8) pa_nil)) pa_nil))))))
    (pss_one (ps_ret (C8.pe_c (c.like 4) hr (by decide) (by rfl) (pa_cons (pe_op op_cat (pv 10) (pe_lst (pa_cons (C8.pe_c cN hr (by decide) (by rfl) (pa_cons pe_str pa_nil)) (pa_cons (C8.pe_c cN hr (by decide) (by rfl) (pa_cons pe_str pa_nil)) (pa_cons (C8.pe_c cN hr (by decide) (by rfl) (pa_cons pe_str pa_nil)) pa_nil)))))
      (pa_cons (pe_op op_cat (pe_op op_rep (pe_lst (pa_cons pe_bl pa_nil)) pe_int) (pe_lst (pa_cons (pe_cmpR op_lt (pe_callB call_len (by rfl) M.len boot_len (pa_cons (pv 5) pa_nil)) pe_int (nomark _)) (pa_cons pe_bl (pa_cons pe_bl (pa_cons pe_bl (pa_cons pe_bl (pa_cons pe_bl pa_nil)))))))) pa_nil)))))))))))), ?_⟩
  -- the bag, the names
  refine ⟨_, rfl, a, ns, rfl, hS, h63, fun b l H1 nb s1 B1 => ?_⟩
  refine ⟨_, rfl, b, l, 4, rfl, B1, by decide, fun r ws H2 hN nr k2 B2 hr2 => ?_⟩
  have nrb := B1.new nr
  -- long
  refine ⟨⟨_, rfl⟩, _, rfl, b, l, 8, rfl, B2, by decide, by decide, fun d H3 hd0 hd1 k3 B3 => ?_⟩
  refine ⟨_, _, rfl, rfl, 1 + d, rfl, by omega, by omega, fun D nD => ?_⟩
  have nD' := B3.new nD
  refine lc_range (lo := 0) (n := (1 + d).toNat) (Sgn b l D H3) ⟨[], fun c hc => (by cases hc), rfl, .of (same_new nD _), B3.kp (same_new nD _), upd_same⟩ ?_ ?_
  · rintro i H4 hi ⟨cs, hlow, hcl, k4, B4, hD⟩
    refine ⟨rfl, _, rfl, _, rfl, b, l, _, _, rfl, B4, itm_abc, by rw [List.length_map, abc_len]; decide, by rw [List.length_map, abc_len]; decide, fun j v H5 hv k5 B5 => ?_⟩
    rw [List.getElem?_map] at hv
    obtain ⟨c, hc, rfl⟩ := Option.map_eq_some_iff.mp hv
    have hcl' : Low [c] := .one (abc_mem.mp (List.mem_of_getElem? hc))
    have hD3 := k5 _ _ hD nD'.1
    refine ⟨_, hD3, (by rw [List.length_map, List.length_map, hcl]; exact small1000 (by omega)), cs ++ [c], hlow.app hcl', by rw [List.length_append, hcl]; rfl, (k4.trans k5).upd nD, B5.upd nD'.1 nD'.2, ?_⟩
    rw [upd_same, List.map_append, List.map_append]
    rfl
  rintro H4 ⟨cs, hlow, hcl, k4, B4, hD⟩
  have c1 : 1 ≤ cs.length := by omega
  have c8 : cs.length ≤ 8 := by omega
  refine ⟨_, D, _, rfl, rfl, .inl (SqL.of hD), by rw [sizes_signs, List.length_map]; show cs.length + cs.length * 0 ≤ _; omega, ?_⟩
  rw [join_signs]
  have hz : (SX.S cs).length ≤ sizeLine := by rw [SX.S_len]; exact small (by omega)
  -- at
  refine ⟨_, rfl, _, rfl, _, (SX.S cs).length, rfl, ⟨hz, rfl⟩, _, _, rfl, rfl, b, l, _, rfl, B4, by omega, by rw [SX.S_len]; omega, fun at' H5 ha0 ha1 k5 B5 => ?_⟩
  rw [SX.S_len] at ha1
  -- bent
  refine ⟨_, rfl, _, rfl, at', rfl, SX.S cs, rfl, hz, ?_⟩
  rw [SX.slice_to ha0]
  refine ⟨_, rfl, (by show 9 ≤ sizeLine; decide), fun p np => ?_⟩
  have np' := B5.new np
  refine ⟨b, l, .ref p, _, rfl, B5.kp (same_new np _), .inr ⟨p, rfl, np'.1, .inl (SqL.of upd_same)⟩, by decide, by decide, fun i v H6 hv k6 B6 => ?_⟩
  have hbad : ∃ c, v = .str (SX.S [c]) ∧ ¬ (97 ≤ c ∧ c < 123) := by
    have hm := List.mem_of_getElem? hv
    simp only [List.mem_cons, List.not_mem_nil, or_false] at hm
    rcases hm with rfl | rfl | rfl | rfl | rfl | rfl | rfl | rfl | rfl
    · exact ⟨32, rfl, by decide⟩
    · exact ⟨65, rfl, by decide⟩
    · exact ⟨48, rfl, by decide⟩
    · exact ⟨95, rfl, by decide⟩
    · exact ⟨45, rfl, by decide⟩
    · exact ⟨63, rfl, by decide⟩
    · exact ⟨46, rfl, by decide⟩
    · exact ⟨90, rfl, by decide⟩
    · exact ⟨58, rfl, by decide⟩
  obtain ⟨cb, rfl, hcb⟩ := hbad
  refine ⟨_, _, rfl, rfl, (by rw [SX.S_len, SX.S_len, List.length_take, List.length_singleton]; exact small (by omega)), ?_⟩
  rw [SX.S_cat]
  refine ⟨_, rfl, _, rfl, at', rfl, SX.S cs, rfl, hz, ?_⟩
  rw [SX.slice_from ha0]
  refine ⟨_, _, rfl, rfl, (by rw [SX.S_len, SX.S_len, List.length_append, List.length_take, List.length_drop, List.length_singleton]; exact small (by omega)), ?_⟩
  rw [SX.S_cat]
  have hbm : cb ∈ cs.take at'.toNat ++ [cb] ++ cs.drop at'.toNat := by simp
  have hbl : (cs.take at'.toNat ++ [cb] ++ cs.drop at'.toNat).length ≤ 1000 := by
    rw [List.length_append, List.length_append, List.length_take, List.length_drop, List.length_singleton]
    omega
  generalize cs.take at'.toNat ++ [cb] ++ cs.drop at'.toNat = bent at hbm hbl
  -- odd
  refine ⟨_, rfl, (by show 1 ≤ sizeLine; decide), fun t1 n1 => ⟨(by show 1 ≤ sizeLine; decide), fun t2 n2 => ⟨(by show 0 ≤ sizeLine; decide), fun t3 n3 => ⟨(by show 7 ≤ sizeLine; decide), fun p2 np2 => ?_⟩⟩⟩⟩
  have g1 := same_new n1 (.tup [.str "a"])
  have g2 := same_new n2 (.lst [.str "a"])
  have g3 := same_new n3 (.tup [])
  have g4 := same_new np2 (.lst [.non, .int 3, .bl true, .ref t1, .ref t2, .str "", .ref t3])
  have gT := ((g1.trans g2).trans g3).trans g4
  have e1 := (g2.trans (g3.trans g4)) _ _ (upd_same (H := H6) (a := t1) (o := .tup [.str "a"]))
  have e2 := (g3.trans g4) _ _ (upd_same (a := t2) (o := .lst [.str "a"]))
  have e3 := g4 _ _ (upd_same (a := t3) (o := .tup []))
  have BT := B6.kp gT
  have np2' := (B6.kp ((g1.trans g2).trans g3)).new np2
  have n1' := B6.new n1
  have n2' := (B6.kp g1).new n2
  have n3' := (B6.kp (g1.trans g2)).new n3
  refine ⟨b, l, .ref p2, _, rfl, BT, .inr ⟨p2, rfl, np2'.1,   .inl (SqL.of upd_same)⟩, by show 0 < 7; decide, by show 7 < 2 ^ 62; decide, fun i v H7 hv k7 B7 => ?_⟩
  have hodd : v = .str (SX.S []) ∨ NoStr K H7 v := by
    have hm := List.mem_of_getElem? hv
    simp only [List.mem_cons, List.not_mem_nil, or_false] at hm
    rcases hm with rfl | rfl | rfl | rfl | rfl | rfl | rfl
    · exact .inr nostr_non
    · exact .inr nostr_int
    · exact .inr nostr_bl
    · exact .inr (nostr_tup (k7 _ _ e1 n1'.1))
    · exact .inr (nostr_lst (k7 _ _ e2 n2'.1))
    · exact .inl rfl
    · exact .inr (nostr_tup (k7 _ _ e3 n3'.1))
  -- found
  have kr : Kp b H2 H7 := (k3.trans (k4.trans (k5.trans (.of (same_new np _))))).trans (k6.trans ((Kp.of gT).trans k7))
  have hr7 := kr _ _ hr2 nrb.1
  refine ⟨_, rfl, r, rfl, ⟨_, SqL.of hr7⟩, fun D2 nD2 => ?_⟩
  refine lc_list (K := K) (a := r) (xs := ws.map fun w => V.str (SX.S w)) (fun i H' => Same H7 H' ∧ H' D2 = some (.lst ((List.replicate i true).map V.bl))) ⟨same_new nD2 _, upd_same⟩ (fun i H' _ pv => SqL.of (pv.1 _ _ hr7)) ?_ ?_
  · rintro i x H8 hx ⟨s8, hD8⟩
    rw [List.getElem?_map] at hx
    obtain ⟨w, hw, rfl⟩ := Option.map_eq_some_iff.mp hx
    obtain ⟨w1, w2, w3⟩ := hN.word w (List.mem_of_getElem? hw)
    have hi : i < 4 := by
      have z := (List.getElem?_eq_some_iff.mp hw).1
      rw [hN.len] at z
      exact z
    refine ⟨rfl, _, rfl, _, _, rfl, name_is (by omega : w.length ≤ 1000), fun H9 s9 => ⟨_, s9 _ _ hD8, (by rw [List.length_map, List.length_replicate]; exact small1000 (by omega)), fun c o hc => ?_, ?_⟩⟩
    · rw [upd_ne (ne_of_none hc nD2)]
      exact s9 _ _ (s8 _ _ hc)
    · rw [upd_same, isNm_low w1 w2, decide_eq_true (by omega : w.length ≤ 6), List.replicate_succ', List.map_append]
      rfl
  rintro H8 ⟨s8, hD8⟩
  rw [List.length_map, hN.len] at hD8
  refine ⟨_, rfl, rfl, _, _, rfl, name_is (by omega : cs.length ≤ 1000), fun H9 s9 => ?_⟩
  refine ⟨_, rfl, _, _, rfl, name_is hbl, fun H10 s10 => ?_⟩
  have so := s8.trans (s9.trans s10)
  have hodd' : NameIs K H10 v false := by
    rcases hodd with rfl | h
    · exact .inl ⟨[], rfl, by decide, rfl⟩
    · exact .inr ⟨h.same so, rfl⟩
  refine ⟨_, rfl, _, _, rfl, hodd', fun H11 s11 => ?_⟩
  refine ⟨(by show 3 ≤ sizeLine; decide), fun p3 np3 => ?_⟩
  have hD11 := (s9.trans (s10.trans s11)) _ _ hD8
  have g5 := same_new np3 (.lst [V.bl (isNm cs), .bl (isNm bent), .bl false])
  refine ⟨D2, p3, _, _, rfl, rfl, g5 _ _ hD11, upd_same, (by show 4 + 3 ≤ sizeLine; decide), fun p4 np4 => ?_⟩
  rw [isNm_low hlow c1, isNm_bad hbm hcb]
  -- the last three names
  refine ⟨_, rfl, ?_⟩
  refine ⟨_, _, rfl, name_is (cs := [97, 98, 99, 100, 101, 102]) (by decide), fun H12 s12 => ?_⟩
  refine ⟨_, _, rfl, name_is (cs := [97, 98, 99, 100, 101, 102, 103]) (by decide), fun H13 s13 => ?_⟩
  refine ⟨_, _, rfl, name_is (cs := [97]) (by decide), fun H14 s14 => ?_⟩
  refine ⟨(by show 3 ≤ sizeLine; decide), fun p5 np5 => ?_⟩
  have g6 := same_new np5 (.lst [.bl (isNm [97, 98, 99, 100, 101, 102]), .bl (isNm [97, 98, 99, 100, 101, 102, 103]), .bl (isNm [97])])
  have e4 := (s12.trans (s13.trans (s14.trans g6))) _ _ (upd_same (a := p4) (o := .lst ((List.replicate 4 true).map V.bl ++ [.bl (decide (cs.length ≤ 6)), .bl false, .bl false])))
  refine ⟨p4, p5, _, _, rfl, rfl, e4, upd_same, (by show 7 + 3 ≤ sizeLine; decide), fun p6 np6 => ?_⟩
  refine ⟨(by show 1 ≤ sizeLine; decide), fun p7 np7 => ?_⟩
  refine ⟨p7, 4, _, rfl, rfl, upd_same, by decide, by decide, (by show 1 * 4 ≤ sizeLine; decide), fun p8 np8 => ?_⟩
  refine ⟨_, rfl, _, (SX.S cs).length, rfl, ⟨hz, rfl⟩, _, _, rfl, rfl, (by show 6 ≤ sizeLine; decide), fun p9 np9 => ?_⟩
  refine ⟨p8, p9, _, _, rfl, rfl, same_new np9 _ _ _ upd_same, upd_same, (by show 4 + 6 ≤ sizeLine; decide), fun p10 np10 => ?_⟩
  rw [SX.S_len]
  have ed : decide (((cs.length : Nat) : Int) < 7) = decide (cs.length ≤ 6) := by
    by_cases z : cs.length ≤ 6
    · rw [decide_eq_true z, decide_eq_true (by omega)]
    · rw [decide_eq_false z, decide_eq_false (by omega)]
  have h10 : ∀ H', _ := fun H' => dpall_bools (K := K) (H := H') (bs := [true, true, true, true, decide (cs.length ≤ 6), false, false, true, false, true])
  refine ⟨.ref p6, .ref p10, _, rfl, .lst (SqL.of ((same_new np7 _).trans ((same_new np8 _).trans ((same_new np9 _).trans (same_new np10 _))) _ _ upd_same)) (h10 _), .lst (SqL.of (Eq.trans upd_same (congrArg (fun t => some (HO.lst [V.bl true, .bl true, .bl true, .bl true, .bl t, .bl false, .bl false, .bl true, .bl false, .bl true])) ed))) (h10 _), okd_bools (by show 10 ≤ 1000; decide), fun H' _ => q H'⟩
end
end Ag

namespace Ag
open PySem PySem.Spec PyProof.Rows L2
section
theorem all_mk {l : PySem.W.OpenLaw} {w : World} {K : PySem.W.Frag} {h : Heap} {mg : Str → Option Value} {fa f1 f2 f3 f4 f5 f6 f7 f8 : Addr} (X : K.In h) (G : h.Ns mainGlobals mg) (hfa : mg "law" = some (.ref fa))
    {od1 an1 od2 an2 od3 an3 od4 an4 od5 an5 od6 an6 od7 an7 od8 an8 : Option Addr} {sl1 sl2 sl3 sl4 sl5 sl6 sl7 sl8 : Array (Option Value)} {oc1 kV1 dc1 pm1 cd1 ct1 oc2 kV2 dc2 pm2 cd2 ct2 oc3 kV3 dc3 pm3 cd3 ct3 oc4 kV4 dc4 pm4 cd4 ct4 oc5 kV5 dc5 pm5 cd5 ct5 oc6 kV6 dc6 pm6 cd6 ct6 oc7 kV7 dc7 pm7 cd7 ct7 oc8 kV8 dc8 pm8 cd8 ct8 : Value}
    (a1 : PySem.W.nsIn K mainGlobals "_law_bag" = some (some (.ref f1))) (l1 : K.lookup f1 = some ⟨oc1, od1, .func (PySem.W.fnOf "_law_bag" "_law_bag" (defArgs sBag) (defBody sBag) (defScope sBag) .none kV1 dc1 pm1 an1 cd1 ct1), sl1⟩) (c1 : PySem.W.codeIn K cd1 "_law_bag" = true) (k1 : PySem.W.keepIn K (.ref f1) = true)
    (a2 : PySem.W.nsIn K mainGlobals "_law_pull" = some (some (.ref f2))) (l2 : K.lookup f2 = some ⟨oc2, od2, .func (PySem.W.fnOf "_law_pull" "_law_pull" (defArgs sPull) (defBody sPull) (defScope sPull) .none kV2 dc2 pm2 an2 cd2 ct2), sl2⟩) (c2 : PySem.W.codeIn K cd2 "_law_pull" = true) (k2 : PySem.W.keepIn K (.ref f2) = true)
    (a3 : PySem.W.nsIn K mainGlobals "_law_any" = some (some (.ref f3))) (l3 : K.lookup f3 = some ⟨oc3, od3, .func (PySem.W.fnOf "_law_any" "_law_any" (defArgs sAny) (defBody sAny) (defScope sAny) .none kV3 dc3 pm3 an3 cd3 ct3), sl3⟩) (c3 : PySem.W.codeIn K cd3 "_law_any" = true) (k3 : PySem.W.keepIn K (.ref f3) = true)
    (a4 : PySem.W.nsIn K mainGlobals "_law_like" = some (some (.ref f4))) (l4 : K.lookup f4 = some ⟨oc4, od4, .func (PySem.W.fnOf "_law_like" "_law_like" (defArgs sLike) (defBody sLike) (defScope sLike) .none kV4 dc4 pm4 an4 cd4 ct4), sl4⟩) (c4 : PySem.W.codeIn K cd4 "_law_like" = true) (k4 : PySem.W.keepIn K (.ref f4) = true)
    (a5 : PySem.W.nsIn K mainGlobals "_law_names" = some (some (.ref f5))) (l5 : K.lookup f5 = some ⟨oc5, od5, .func (PySem.W.fnOf "_law_names" "_law_names" (defArgs sNames) (defBody sNames) (defScope sNames) .none kV5 dc5 pm5 an5 cd5 ct5), sl5⟩) (c5 : PySem.W.codeIn K cd5 "_law_names" = true) (k5 : PySem.W.keepIn K (.ref f5) = true)
    (a6 : PySem.W.nsIn K mainGlobals "is_letter" = some (some (.ref f6))) (l6 : K.lookup f6 = some ⟨oc6, od6, .func (PySem.W.fnOf "is_letter" "is_letter" (defArgs sLetter) (defBody sLetter) (defScope sLetter) .none kV6 dc6 pm6 an6 cd6 ct6), sl6⟩) (c6 : PySem.W.codeIn K cd6 "is_letter" = true) (k6 : PySem.W.keepIn K (.ref f6) = true)
    (a7 : PySem.W.nsIn K mainGlobals "is_name" = some (some (.ref f7))) (l7 : K.lookup f7 = some ⟨oc7, od7, .func (PySem.W.fnOf "is_name" "is_name" (defArgs sName) (defBody sName) (defScope sName) .none kV7 dc7 pm7 an7 cd7 ct7), sl7⟩) (c7 : PySem.W.codeIn K cd7 "is_name" = true) (k7 : PySem.W.keepIn K (.ref f7) = true)
    (a8 : PySem.W.nsIn K mainGlobals "law" = some (some (.ref f8))) (l8 : K.lookup f8 = some ⟨oc8, od8, .func (PySem.W.fnOf "law" "law" (defArgs sLaw) (defBody sLaw) (defScope sLaw) .none kV8 dc8 pm8 an8 cd8 ct8), sl8⟩) (c8 : PySem.W.codeIn K cd8 "law" = true) (k8 : PySem.W.keepIn K (.ref f8) = true)
    {t1 t2 : Tok} (v1 : PySem.W.nsIn K mainGlobals "LETTERS" = some (some (.str "abcdefghijklmnopqrstuvwxyz" t1))) (v2 : PySem.W.nsIn K mainGlobals "LONGEST_NAME" = some (some (.int 6 t2)))
    (z1 : PySem.W.nsIn K mainGlobals "len" = some none) (z2 : PySem.W.nsIn K mainGlobals "int" = some none) (z3 : PySem.W.nsIn K mainGlobals "list" = some none) (z4 : PySem.W.nsIn K mainGlobals "isinstance" = some none) (z5 : PySem.W.nsIn K mainGlobals "dict" = some none) (z6 : PySem.W.nsIn K mainGlobals "tuple" = some none)
    (z7 : PySem.W.nsIn K mainGlobals "bool" = some none) (z8 : PySem.W.nsIn K mainGlobals "str" = some none) (z9 : PySem.W.nsIn K mainGlobals "all" = some none) (z10 : PySem.W.nsIn K mainGlobals "zip" = some none) (z11 : PySem.W.nsIn K mainGlobals "range" = some none) :
    ∃ fd : FuncData, (∀ (s : Shared) (v : Value), BindsTo s fd ⟨[v], []⟩ [("_law_script", v)]) ∧ ∀ base : Heap, K.In base → base.Ns mainGlobals mg → FnOk l.prog w K mg base CX0 5 fa fd ["_law_script"] (spLaw K) := by
  have e := hfa.symm.trans (PySem.W.mg_of X G a8)
  cases e
  have N := fun {x : Str} (z : PySem.W.nsIn K mainGlobals x = some none) => PySem.W.mg_none_of X G z
  have F1 := fun_mk (st := sBag) l1 c1 k1
  have F2 := fun_mk (st := sPull) l2 c2 k2
  have F3 := fun_mk (st := sAny) l3 c3 k3
  have F4 := fun_mk (st := sLike) l4 c4 k4
  have F5 := fun_mk (st := sNames) l5 c5 k5
  have F6 := fun_mk (st := sLetter) l6 c6 k6
  have F7 := fun_mk (st := sName) l7 c7 k7
  have F8 := fun_mk (st := sLaw) l8 c8 k8
  have b1 := F1.binds (ps := ["_law_script"]) fun _ _ _ _ _ _ us hl => match us, hl with | [_], _ => rfl
  have b2 := F2.binds (ps := ["_law_bag_here", "_law_many"]) fun _ _ _ _ _ _ us hl => match us, hl with | [_, _], _ => rfl
  have b3 := F3.binds (ps := ["_law_bag_here", "_law_things"]) fun _ _ _ _ _ _ us hl => match us, hl with | [_, _], _ => rfl
  have b4 := F4.binds (ps := ["_law_found", "_law_due"]) fun _ _ _ _ _ _ us hl => match us, hl with | [_, _], _ => rfl
  have b5 := F5.binds (ps := ["_law_bag_here", "_law_many"]) fun _ _ _ _ _ _ us hl => match us, hl with | [_, _], _ => rfl
  have b6 := F6.binds (ps := ["value"]) fun _ _ _ _ _ _ us hl => match us, hl with | [_], _ => rfl
  have b7 := F7.binds (ps := ["value"]) fun _ _ _ _ _ _ us hl => match us, hl with | [_], _ => rfl
  have kw7 : KW0 (PySem.W.fnOf "is_name" "is_name" (defArgs sName) (defBody sName) (defScope sName) .none kV7 dc7 pm7 an7 cd7 ct7) ["value"] ["value"] (fun ws => ws) (fun zs => zs) := ⟨fun s ws l => match ws, l with | [_], _ => .of_eq rfl, fun r => r⟩
  have LM : LikeM mg := ⟨N z4, N z5, N z3, N z6, N z7, N z2, N z8, N z1, N z9, N z10⟩
  have NM : NamesM mg := ⟨N z11, N z2, N z1⟩
  have AM : NameM mg := ⟨N z4, N z8, N z1, N z9, ⟨_, PySem.W.mg_of X G v1⟩, ⟨_, PySem.W.mg_of X G v2⟩⟩
  refine ⟨PySem.W.fnOf "law" "law" (defArgs sLaw) (defBody sLaw) (defScope sLaw) .none kV8 dc8 pm8 an8 cd8 ct8, fun s v => .of_eq rfl, fun base _ _ => ?_⟩
  have cP : C8.Cal l.prog w K mg base 1 "_law_pull" spPull [] := ⟨f2, _, _, _, ok_pull F2 (N z1) (N z2), PySem.W.mg_of X G a2, k2, b2, .nil⟩
  have cA : C8.Cal l.prog w K mg base 2 "_law_any" (spAny K) [] := ⟨f3, _, _, _, ok_any F3 cP (N z1), PySem.W.mg_of X G a3, k3, b3, .nil⟩
  have cs : Cals l.prog w K mg base := ⟨⟨f1, _, _, _, ok_bag F1 (N z3), PySem.W.mg_of X G a1, k1, b1, .nil⟩, cP, cA, ⟨f5, _, _, _, ok_names F5 cP cA NM, PySem.W.mg_of X G a5, k5, b5, .nil⟩, like_cal F4 b4 (PySem.W.mg_of X G a4) LM⟩
  have cL : C8.Cal l.prog w K mg base 1 "is_letter" (spLetter K) [] := ⟨f6, _, _, _, ok_letter F6 AM, PySem.W.mg_of X G a6, k6, b6, .nil⟩
  have GN := ok_name (P := l.prog) (w := w) (base := base) F7 cL AM
  exact ok_law F8 cs ⟨f7, _, _, _, GN, PySem.W.mg_of X G a7, k7, b7, .nil⟩ GN (PySem.W.mg_of X G a7) k7 kw7 NM
end
end Ag

namespace Ag
open PySem L2
theorem walk {l : PySem.W.OpenLaw} {q : Program} {loose : List Str} {XP : (Str → Option Value) → Heap → Prop} {YP : World → Heap → Prop} {d : DefRec} {K : Params → PySem.W.Frag} (hn : l.most = some 63) (hdf : d.params.defaults = [])
    (hY : ∀ (w : World) (h : Heap), YP w h → (K w.params).In h)
    (F : ∀ (w : World) (mg : Str → Option Value) (fa : Addr) (h : Heap), (K w.params).In h → h.Ns mainGlobals mg → mg d.name = some (.ref fa) →
      ∃ fd : FuncData, (∀ (s : Shared) (u : Value), BindsTo s fd ⟨[u], []⟩ [("_law_script", u)]) ∧ ∀ base : Heap, (K w.params).In base → base.Ns mainGlobals mg → FnOk l.prog w (K w.params) mg base CX0 5 fa fd ["_law_script"] (spLaw (K w.params))) :
    PySem.W.WalkO q loose XP YP l.row.toRowW d [] (fun f vs => PySem.call f vs) :=
  L2.walk_of (n := 63) (k := 5) (x := "_law_script") (CX := fun _ => CX0) (sp := fun w => spLaw (K w.params)) hn (by decide) hdf ⟨rfl, by decide, by decide⟩ hY F (fun _ _ a ns hl _ hS => ⟨a, ns, rfl, hS, hl, fun _ => rfl⟩) fun _ _ _ _ _ z => z
end Ag
open PySem PySem.W PyProof.Rows
set_option maxRecDepth 100000 in
set_option maxHeartbeats 0 in
theorem PySem.Challenge.cw_addedgrounds_k02_names_holds : PySem.Challenge.rw_addedgrounds_k02_names.Holds := by
  w_on; o_law; k_head; (case hw => w_witness2)
  k_fill
  refine Ag.walk (l := PySem.Challenge.rw_addedgrounds_k02_names) rfl rfl (fun w h Y => PySem.W.kIn_of Y) ?F
  case F =>
    intro w mg fa h KX G hmg
    refine' Ag.all_mk KX G hmg ?a1 ?l1 ?c1 ?k1 ?a2 ?l2 ?c2 ?k2 ?a3 ?l3 ?c3 ?k3 ?a4 ?l4 ?c4 ?k4 ?a5 ?l5 ?c5 ?k5 ?a6 ?l6 ?c6 ?k6 ?a7 ?l7 ?c7 ?k7 ?a8 ?l8 ?c8 ?k8 ?v1 ?v2 ?z1 ?z2 ?z3 ?z4 ?z5 ?z6 ?z7 ?z8 ?z9 ?z10 ?z11
    (case a1 => k_is); (case l1 => k_is); (case c1 => k_is); (case k1 => k_is)
    (case a2 => k_is); (case l2 => k_is); (case c2 => k_is); (case k2 => k_is)
    (case a3 => k_is); (case l3 => k_is); (case c3 => k_is); (case k3 => k_is)
    (case a4 => k_is); (case l4 => k_is); (case c4 => k_is); (case k4 => k_is)
    (case a5 => k_is); (case l5 => k_is); (case c5 => k_is); (case k5 => k_is)
    (case a6 => k_is); (case l6 => k_is); (case c6 => k_is); (case k6 => k_is)
    (case a7 => k_is); (case l7 => k_is); (case c7 => k_is); (case k7 => k_is)
    (case a8 => k_is); (case l8 => k_is); (case c8 => k_is); (case k8 => k_is)
    (case v1 => k_is); (case v2 => k_is)
    (case z1 => k_is); (case z2 => k_is); (case z3 => k_is); (case z4 => k_is); (case z5 => k_is); (case z6 => k_is)
    (case z7 => k_is); (case z8 => k_is); (case z9 => k_is); (case z10 => k_is); (case z11 => k_is)
