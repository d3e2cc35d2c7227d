import PyProof.Rows.All
import Wide.All
import OpenK.AllK
import Wide.FinOn
import HandS.ForMost
import HandS.IsInst
import HandS.Wide
import HandS.Walk
import HandS.Zip
import HandS.Codes
import HandS.More
import HandS.SetKeys
import PyProof.EnumMake
import PyProof.Draws
import KE.GoesMore
import HandS.ClsMeth
import HandS.Defaults
import KE.DatumOrd
import PyProof.P3Eq
import HandS.SlotsOwn
import HandS.TupAny
import HandS.Star
import HandS.Style
import PySem.Challenge.RW_addedgrounds_k13_contexts_changed
set_option Elab.async false
set_option maxRecDepth 100000
set_option maxHeartbeats 4000000
set_option linter.unusedVariables false
namespace Ag
open PySem PySem.Spec PyProof.Rows L2

/-! ### heaps: all but the bag is kept -/
def Kp (b : Addr) (H H' : Hp) : Prop := ∀ c o, H c = some o → c ≠ b → H' c = some o
theorem Kp.refl (b : Addr) (H : Hp) : Kp b H H := fun _ _ e _ => e
theorem Kp.trans {b : Addr} {H H1 H2 : Hp} (p : Kp b H H1) (q : Kp b H1 H2) : Kp b H H2 := fun c o e n => q c o (p c o e n) n
theorem Kp.of {b : Addr} {H H' : Hp} (s : Same H H') : Kp b H H' := fun c o e _ => s c o e
theorem Kp.seqL {K : PySem.W.Frag} {b a : Addr} {H H' : Hp} {xs : List V} (p : Kp b H H') (n : a ≠ b) (h : SqL K H a xs) : SqL K H' a xs := by
  rcases h with (h | ⟨o, h⟩) | h
  · exact .inl (.inl (p _ _ h n))
  · exact .inl (.inr ⟨o, p _ _ h n⟩)
  · exact .inr h
theorem Kp.seqT {K : PySem.W.Frag} {b a : Addr} {H H' : Hp} {xs : List V} (p : Kp b H H') (n : a ≠ b) (h : SqT K H a xs) : SqT K H' a xs := by
  rcases h with (h | ⟨o, h⟩) | h
  · exact .inl (.inl (p _ _ h n))
  · exact .inl (.inr ⟨o, p _ _ h n⟩)
  · exact .inr h
theorem sameT {K : PySem.W.Frag} {H H' : Hp} {a : Addr} {xs : List V} (e : Same H H') (h : SqT K H a xs) : SqT K H' a xs := by
  rcases h with (h | ⟨o, h⟩) | h
  · exact .inl (.inl (e _ _ h))
  · exact .inl (.inr ⟨o, e _ _ h⟩)
  · exact .inr h
theorem same_new {H : Hp} {p : Addr} (h : H p = none) (o : HO) : Same H (upd H p o) := fun b u q => by rw [upd_ne (ne_of_none q h)]; exact q

/-! ### the bag that a law draws from -/
def Bag (H : Hp) (b l : Addr) : Prop := ∃ (ns : List Int) (at' : Nat) (big seed cnt : Int), H b = some (.lst [.ref l, .int at', .int big, .int seed, .int cnt]) ∧
  H l = some (.lst (ns.map V.int)) ∧ l ≠ b ∧ ns.length ≤ 63 ∧ 0 ≤ big ∧ 0 ≤ seed ∧ seed < 2147483629
theorem Bag.kp {H H' : Hp} {b l : Addr} (g : Bag H b l) (s : Same H H') : Bag H' b l := by
  obtain ⟨ns, at', big, seed, cnt, h1, h2, r⟩ := g
  exact ⟨ns, at', big, seed, cnt, s _ _ h1, s _ _ h2, r⟩
theorem Bag.new {H : Hp} {b l a : Addr} (g : Bag H b l) (h : H a = none) : a ≠ b ∧ a ≠ l := by
  obtain ⟨ns, at', big, seed, cnt, h1, h2, _⟩ := g
  exact ⟨(ne_of_none h1 h).symm, (ne_of_none h2 h).symm⟩
theorem Bag.upd {H : Hp} {b l a : Addr} {o : HO} (g : Bag H b l) (h1 : a ≠ b) (h2 : a ≠ l) : Bag (upd H a o) b l := by
  obtain ⟨ns, at', big, seed, cnt, g1, g2, r⟩ := g
  exact ⟨ns, at', big, seed, cnt, by rw [upd_ne h1.symm]; exact g1, by rw [upd_ne h2.symm]; exact g2, r⟩
theorem Kp.upd {b a : Addr} {H H' : Hp} {o : HO} (k : Kp b H H') (h : H a = none) : Kp b H (upd H' a o) := fun c u e n => by
  rw [upd_ne (ne_of_none e h)]
  exact k c u e n
theorem Kp.free {b a : Addr} {H H' : Hp} (k : Kp b H H') (n : a ≠ b) (h : H' a = none) : H a = none := by
  cases q : H a with
  | none => rfl
  | some o =>
    rw [k a o q n] at h
    cases h

/-- what may be drawn from: a text's signs, the items of a list or a tuple -/
def Itm (K : PySem.W.Frag) (H : Hp) (b : Addr) (x : V) (vs : List V) : Prop := (∃ z : Str, x = .str z ∧ z.length ≤ sizeLine ∧ vs = z.cps.toList.map fun c => V.str ⟨#[c]⟩) ∨ ∃ a, x = .ref a ∧ a ≠ b ∧ (SqL K H a vs ∨ SqT K H a vs)
/-! ### operators of several kinds at once -/
theorem opOr {X : Cx} {f : Value → Value → Sem Value} {r1 r2 : R2} (h1 : OpR X f r1) (h2 : OpR X f r2) : OpR X f (fun x y H Q => r1 x y H Q ∨ r2 x y H Q) := by
  intro pins s σ H x y v u Q I rx ry h
  rcases h with h | h
  · exact h1 pins s σ H x y v u Q I rx ry h
  · exact h2 pins s σ H x y v u Q I rx ry h

/-! ### data of any depth without dicts -/
theorem Dp_same_all {K : PySem.W.Frag} {H H' : Hp} (s : Same H H') : (∀ (d : PyData) (v : V), Dp K H v d → Dp K H' v d) ∧ True := by
  refine ⟨?_, trivial⟩
  intro d v h
  exact Dp.rec (motive_1 := fun v d _ => Dp K H' v d) (motive_2 := fun vs ds _ => DpAll K H' vs ds) .non .bl .int .str
    (fun q _ ih => .lst (s.seq q) ih) (fun q _ ih => .tup (sameT s q) ih) .nil (fun _ _ a b => .cons a b) h
theorem Dp_same {K : PySem.W.Frag} {H H' : Hp} (s : Same H H') {d : PyData} {v : V} (h : Dp K H v d) : Dp K H' v d := (Dp_same_all s).1 d v h
theorem DpAll_same {K : PySem.W.Frag} {H H' : Hp} (s : Same H H') : ∀ {vs : List V} {ds : List PyData}, DpAll K H vs ds → DpAll K H' vs ds
  | _, _, .nil => .nil
  | _, _, .cons a b => .cons (Dp_same s a) (DpAll_same s b)
theorem dpall_len {K : PySem.W.Frag} {H : Hp} : ∀ {vs : List V} {ds : List PyData}, DpAll K H vs ds → vs.length = ds.length
  | _, _, .nil => rfl
  | _, _, .cons _ b => congrArg (· + 1) (dpall_len b)
theorem dpall_get {K : PySem.W.Frag} {H : Hp} : ∀ {vs : List V} {ds : List PyData} {i : Nat} {v : V}, DpAll K H vs ds → vs[i]? = some v → ∃ d, ds[i]? = some d ∧ Dp K H v d
  | _, _, _, _, .nil, e => by simp at e
  | _, _, 0, _, .cons a _, e => by
    simp at e
    subst e
    exact ⟨_, rfl, a⟩
  | _, _, i + 1, _, .cons _ b, e => by
    obtain ⟨d, h1, h2⟩ := dpall_get (i := i) b (by simpa using e)
    exact ⟨d, by simpa using h1, h2⟩
/-- no dict in it, less than n deep, at most 1000 items in a list -/
def okd : Nat → PyData → Bool
  | 0, _ => false
  | n + 1, .list ds => decide (ds.length ≤ 1000) && ds.all (okd n)
  | n + 1, .tuple ds => decide (ds.length ≤ 1000) && ds.all (okd n)
  | _ + 1, .dict _ => false
  | _ + 1, _ => true
def tyD : PyData → String
  | .none => "NoneType"
  | .bool _ => "bool"
  | .int _ => "int"
  | .str _ => "str"
  | .list _ => "list"
  | .tuple _ => "tuple"
  | .dict _ => "dict"
theorem dp_tyx {K : PySem.W.Frag} {H : Hp} {v : V} {d : PyData} (h : Dp K H v d) : TyX K H v (.type (tyD d)) := by
  cases h with
  | non => exact .base .non
  | bl b => exact .base (.bl b)
  | int i => exact .base (.int i)
  | str x => exact .base (.str x)
  | lst q _ =>
    rcases q with (q | ⟨o, q⟩) | ⟨o, its, n, e, c, _⟩
    · exact .base (.lst q)
    · exact .base (.frz q)
    · exact .kList e c
  | tup q _ =>
    rcases q with (q | ⟨o, q⟩) | ⟨o, its, n, e, c, _⟩
    · exact .base (.tup q)
    · exact .fTuple q
    · exact .kTuple e c
/-- isinstance of such data by a built-in class's name -/
def isD (T : String) (d : PyData) : Bool := (kitB (tyD d) T).getD false
theorem isi_of {K : PySem.W.Frag} {H : Hp} {v : V} {d : PyData} {T : String} {Q : VK} (h : Dp K H v d) (hk : (kitB (tyD d) T).isSome = true) (q : Q (.bl (isD T d)) H) : rIsi K [v, .ty T] H Q := by
  refine ⟨v, .ty T, _, .type T, isD T d, rfl, .ty T, dp_tyx h, ?_, q⟩
  refine kit_ty ?_
  unfold isD
  cases e : kitB (tyD d) T with
  | none => rw [e] at hk; cases hk
  | some b => rfl
theorem kit_some {d : PyData} : (kitB (tyD d) "dict").isSome = true ∧ (kitB (tyD d) "list").isSome = true ∧ (kitB (tyD d) "tuple").isSome = true ∧ (kitB (tyD d) "bool").isSome = true ∧ (kitB (tyD d) "int").isSome = true ∧ (kitB (tyD d) "str").isSome = true := by
  cases d <;> (simp only [tyD]; decide +kernel)
theorem isD_dict {n : Nat} {d : PyData} (h : okd n d = true) : isD "dict" d = false := by
  cases d with
  | dict kvs => cases n <;> simp [okd] at h
  | _ => simp only [isD, tyD]; decide +kernel
theorem iteE {c : Bool} {A B : Prop} (e : c = false) (h : B) : if c = true then A else B := by
  subst e
  exact iteF h
theorem iteU {c : Bool} {A B : Prop} (e : c = true) (h : A) : if c = true then A else B := by
  subst e
  exact iteT h
theorem isiT_of {K : PySem.W.Frag} {H : Hp} {v : V} {d : PyData} {p : Addr} {Q : VK} (h : Dp K H v d) (hp : H p = some (.tup [.ty "list", .ty "tuple"])) (q : Q (.bl (isD "list" d || isD "tuple" d)) H) : rIsiT K [v, .ref p] H Q := by
  refine ⟨v, p, [.ty "list", .ty "tuple"], _, [.type "list", .type "tuple"], _, rfl, hp, .cons (.ty _) (.cons (.ty _) .nil), dp_tyx h, ?_, q⟩
  have h1 : PySem.W.kitOne K (.type (tyD d)) (.type "list") = some (isD "list" d) := kit_ty (by cases d <;> (simp only [isD, tyD]; decide +kernel))
  have h2 : PySem.W.kitOne K (.type (tyD d)) (.type "tuple") = some (isD "tuple" d) := kit_ty (by cases d <;> (simp only [isD, tyD]; decide +kernel))
  refine kitAny_cons h1 (fun e => ?_) (fun e => by rw [e]; rfl)
  rw [e]
  refine kitAny_cons h2 (fun e2 => ?_) (fun e2 => by rw [e2]; rfl)
  rw [e2]
  rfl
theorem walk_zipT {K : PySem.W.Frag} {a b : Addr} {xs ys : List V} {n : Nat} (hn : n = min xs.length ys.length) : Walk (RZ.ItzT K a b) n (fun H => SqT K H a xs ∧ SqT K H b ys) (YPair (fun i => xs[i]?) (fun i => ys[i]?)) := by
  subst hn
  refine ⟨fun i _ hi q => ?_, fun _ q => ⟨xs, ys, q.1, q.2, by omega⟩, fun i H v H' _ q y => ?_⟩
  · have h1 : i < xs.length := by omega
    have h2 : i < ys.length := by omega
    exact ⟨xs, ys, xs[i], ys[i], q.1, q.2, by simp [h1], by simp [h2]⟩
  · obtain ⟨T, x, z, h1, h2, h3, h4, h5⟩ := y
    exact ⟨T, x, z, h1, h2, h3, h4 xs q.1, h5 ys q.2⟩
theorem at_any {α : Type} {xs : List α} {z : Int} {j : Nat} {v : α} (e : z = (j : Int)) (h : xs[j]? = some v) : atI xs z = some v := by
  rw [e]
  exact atI_nat h
theorem isk {K : PySem.W.Frag} {d : PyData} {T : String} (hk : (kitB (tyD d) T).isSome = true) : PySem.W.kitOne K (.type (tyD d)) (.type T) = some (isD T d) := by
  refine kit_ty ?_
  unfold isD
  cases e : kitB (tyD d) T with
  | none => rw [e] at hk; cases hk
  | some b => rfl
theorem iskT {K : PySem.W.Frag} {d : PyData} : PySem.W.kitAny K (.type (tyD d)) [.type "list", .type "tuple"] = some (isD "list" d || isD "tuple" d) := by
  refine kitAny_cons (isk kit_some.2.1) (fun e => ?_) (fun e => by rw [e]; rfl)
  rw [e]
  refine kitAny_cons (isk kit_some.2.2.1) (fun e2 => ?_) (fun e2 => by rw [e2]; rfl)
  rw [e2]
  rfl
theorem isD_leaf {d : PyData} (h2 : ∀ ds, d ≠ .list ds) (h3 : ∀ ds, d ≠ .tuple ds) : (isD "list" d || isD "tuple" d) = false := by
  cases d with
  | list ds => exact absurd rfl (h2 ds)
  | tuple ds => exact absurd rfl (h3 ds)
  | _ => simp only [isD, tyD]; decide +kernel
theorem isD_seq {d : PyData} (h : (∃ ds, d = .list ds) ∨ ∃ ds, d = .tuple ds) : (isD "list" d || isD "tuple" d) = true := by
  rcases h with ⟨ds, rfl⟩ | ⟨ds, rfl⟩ <;> (simp only [isD, tyD]; decide +kernel)
theorem ct2 : Paired ClsV [.ty "list", .ty "tuple"] [.type "list", .type "tuple"] := .cons (.ty _) (.cons (.ty _) .nil)
theorem rep_bl (n : Nat) : List.replicate n (V.bl true) = (List.replicate n true).map V.bl := by rw [List.map_replicate]
theorem rep_all (n : Nat) : (List.replicate n true).all id = true := by
  induction n with
  | zero => rfl
  | succ n ih => rw [List.replicate_succ, List.all_cons, ih]; rfl
theorem small {n : Nat} (h : n ≤ 1000) : n ≤ sizeLine := Nat.le_of_lt (small1000 h)

/-! ### words of small letters -/
def abc : List Nat := (List.range 26).map (· + 97)
theorem abc_str : ("abcdefghijklmnopqrstuvwxyz" : Str) = SX.S abc := by decide +kernel
theorem abc_len : abc.length = 26 := by decide
theorem abc_at {i : Nat} (h : i < 26) : abc[i]? = some (i + 97) := by
  unfold abc
  rw [List.getElem?_map, List.getElem?_range h]
  rfl
theorem abc_mem {c : Nat} : c ∈ abc ↔ 97 ≤ c ∧ c < 123 := by
  unfold abc
  rw [List.mem_map]
  constructor
  · rintro ⟨i, hi, rfl⟩
    rw [List.mem_range] at hi
    omega
  · rintro ⟨h1, h2⟩
    exact ⟨c - 97, by rw [List.mem_range]; omega, by omega⟩
def Low (cs : List Nat) : Prop := ∀ c ∈ cs, 97 ≤ c ∧ c < 123
theorem Low.app {a b : List Nat} (h : Low a) (g : Low b) : Low (a ++ b) := fun c hc => by
  rcases List.mem_append.mp hc with q | q
  · exact h c q
  · exact g c q
theorem Low.take {a : List Nat} (h : Low a) (n : Nat) : Low (a.take n) := fun c hc => h c (List.mem_of_mem_take hc)
theorem Low.drop {a : List Nat} (h : Low a) (n : Nat) : Low (a.drop n) := fun c hc => h c (List.mem_of_mem_drop hc)
theorem Low.one {c : Nat} (h : 97 ≤ c ∧ c < 123) : Low [c] := fun d hd => by
  rw [List.mem_singleton] at hd
  subst hd
  exact h
/-- the k-th of the names that differ in one letter -/
def nm (st : List Nat) (at' fi k : Nat) : List Nat := st.take at' ++ [97 + (fi + 5 * k) % 26] ++ st.drop at'
structure Nms (m : Nat) (ws : List (List Nat)) : Prop where
  ex : ∃ (st : List Nat) (at' fi : Nat), Low st ∧ st.length ≤ 4 ∧ at' ≤ st.length ∧ fi < 26 ∧ ws = (List.range m).map (nm st at' fi)
theorem nm_low {st : List Nat} {at' fi k : Nat} (h : Low st) : Low (nm st at' fi k) := ((h.take at').app (.one (by omega))).app (h.drop at')
theorem nm_len {st : List Nat} {at' fi k : Nat} : (nm st at' fi k).length = st.length + 1 := by
  unfold nm
  rw [List.length_append, List.length_append, List.length_take, List.length_drop, List.length_singleton]
  omega
theorem Nms.len {m : Nat} {ws : List (List Nat)} (h : Nms m ws) : ws.length = m := by
  obtain ⟨st, at', fi, _, _, _, _, rfl⟩ := h.ex
  rw [List.length_map, List.length_range]
theorem Nms.word {m : Nat} {ws : List (List Nat)} (h : Nms m ws) : ∀ w ∈ ws, Low w ∧ 1 ≤ w.length ∧ w.length ≤ 5 := by
  obtain ⟨st, at', fi, h1, h2, _, _, rfl⟩ := h.ex
  intro w hw
  obtain ⟨k, _, rfl⟩ := List.mem_map.mp hw
  rw [nm_len]
  exact ⟨nm_low h1, by omega, by omega⟩
theorem joinL_nil : ∀ cs : List (List Nat), TL.joinL [] cs = cs.flatten
  | [] => rfl
  | [p] => by simp [TL.joinL]
  | p :: q :: r => by
    show p ++ ([] ++ TL.joinL [] (q :: r)) = (p :: q :: r).flatten
    rw [joinL_nil (q :: r)]
    simp
/-- "".join of signs -/
theorem join_signs (cs : List Nat) : Txt.join (Str.ofString "") (cs.map fun c => (⟨#[c]⟩ : Str)) = SX.S cs := by
  have e0 : Str.ofString "" = SX.S [] := by decide +kernel
  have e1 : (cs.map fun c => (⟨#[c]⟩ : Str)) = (cs.map fun c => [c]).map SX.S := by rw [List.map_map]; rfl
  have e2 : (cs.map fun c => [c]).flatten = cs := by
    clear e1
    induction cs with
    | nil => rfl
    | cons c r ih => simp [ih]
  rw [e0, e1, SX.join_S, joinL_nil, e2]
end Ag
namespace Ag
open PySem PySem.Spec PyProof.Rows L2
/-! ### the program's words: letters, names -/
def isLet (cs : List Nat) : Bool := decide (cs.length = 1) && cs.all fun c => decide (97 ≤ c) && decide (c < 123)
def isNm (cs : List Nat) : Bool := decide (1 ≤ cs.length) && decide (cs.length ≤ 6) && cs.all fun c => decide (97 ≤ c) && decide (c < 123)
theorem isNm_low {cs : List Nat} (h : Low cs) (h1 : 1 ≤ cs.length) : isNm cs = decide (cs.length ≤ 6) := by
  unfold isNm
  have e : (cs.all fun c => decide (97 ≤ c) && decide (c < 123)) = true := by
    rw [List.all_eq_true]
    intro c hc
    simp only [Bool.and_eq_true, decide_eq_true_eq]
    exact h c hc
  rw [e, decide_eq_true h1, Bool.true_and, Bool.and_true]
theorem isNm_bad {cs : List Nat} {c : Nat} (h : c ∈ cs) (hc : ¬ (97 ≤ c ∧ c < 123)) : isNm cs = false := by
  unfold isNm
  have e : (cs.all fun c => decide (97 ≤ c) && decide (c < 123)) = false := by
    rw [List.all_eq_false]
    refine ⟨c, h, ?_⟩
    simp only [Bool.and_eq_true, decide_eq_true_eq]
    exact hc
  rw [e, Bool.and_false]
theorem isLet_in (cs : List Nat) (h : cs.length = 1) : (!(Builtin.Str.occurrences (SX.S abc) (SX.S cs) 0 (SX.S abc).length 1).isEmpty) = isLet cs := by
  match cs, h with
  | [c], _ =>
    rw [SX.in_one]
    unfold isLet
    by_cases hc : 97 ≤ c ∧ c < 123
    · rw [decide_eq_true (abc_mem.mpr hc)]
      simp [hc.1, hc.2]
    · rw [decide_eq_false (fun z => hc (abc_mem.mp z))]
      simp
      intro h1
      omega
/-- a value of no text -/
def NoStr (K : PySem.W.Frag) (H : Hp) (x : V) : Prop := ∃ t, TyX K H x t ∧ PySem.W.kitOne K t (.type "str") = some false
/-! ### a call with keywords alone -/
structure KW0 (fd : FuncData) (ps ks : List Str) (g : List Value → List Value) (gV : List V → List V) : Prop where
  to : ∀ (s : Shared) (ws : List Value), ws.length = ks.length → BindsTo s fd ⟨[], ks.zip ws⟩ (ps.zip (g ws))
  rel : ∀ {zs : List V} {ws : List Value}, Vals zs ws → Vals (gV zs) (g ws)
def tCallW (n : Nat) (sp : Sp) (gV : List V → List V) (E : XK) (tk : TA) : TE := fun σ H Q => tk σ H fun zs H2 => zs.length = n ∧ sp (gV zs) H2 Q E
theorem pe_callW {X : Cx} {CX : CXT} {k : Nat} {f : Addr} {fd : FuncData} {ps ks : List Str} {sp : Sp} {E : XK} {x : Str} {p pos : Pos} {kws : List Keyword} {tk : TA} {g : List Value → List Value} {gV : List V → List V}
    (F : FnOk X.prog X.w X.K X.mg X.base CX k f fd ps sp) (hr : Room k X.A) (hg : Gl X x) (hm : X.mg x = some (.ref f)) (hk : PySem.W.keepIn X.K (.ref f) = true) (hb : KW0 fd ps ks g gV) (hx : Passes CX X E) (hkw : PK X kws tk)
    (hall : (backToKw pos (keywordEach kws X.env)).all (·.1.isSome) = true := by rfl) (hks : (backToKw pos (keywordEach kws X.env)).filterMap (·.1) = ks := by rfl) (hdb : (x == ("__debug__" : Str)) = false := by decide)
    (hpl : ((backTo pos (starEach [] X.env)).any (·.1) || (backToKw pos (keywordEach kws X.env)).any (·.1.isNone)) = false := by rfl) : PE X (.Call (.Name x p) [] kws pos) (tCallW ks.length sp gV E tk) := by
  refine ⟨fun pins s σ H Q I h => ?_⟩
  refine wpAny_Call_Name_kw (ld_glob I hg hm ?_ hdb)
  refine PySem.W.callWith_KW0 (h₀ := X.base) I.ok.mod.kin hk hall ?_ hpl
  refine thn (hkw.run pos pins s σ H _ I h) fun ws s2 ⟨zs, H2, I2, rz, l2, q2⟩ => ⟨I2.kIn, ?_⟩
  rw [hks]
  have r2 := hb.rel rz
  refine wpAny_call (codeAny_mono (F.run X.A X.stack s2 H2 ⟨[], ks.zip ws⟩ (g ws) (gV zs) Q E hr I2.env0 (hb.to s2 ws (rz.length.symm.trans l2)) r2 q2) fun r s' hq => ?_)
  cases r with
  | error e => exact hx pins σ H2 s2 e s' I2 hq
  | ok fl =>
    cases fl with
    | ret u => exact I2.after hq
    | next => exact False.elim hq
    | brk => exact False.elim hq
    | cont => exact False.elim hq
end Ag
namespace Ag
open PySem PySem.Spec PyProof.Rows L2
theorem dpall_bools {K : PySem.W.Frag} {H : Hp} : ∀ bs : List Bool, DpAll K H (bs.map V.bl) (bs.map PyData.bool)
  | [] => .nil
  | b :: r => .cons (.bl b) (dpall_bools r)
theorem okd_bools {n : Nat} {bs : List Bool} (h : bs.length ≤ 1000) : okd (n + 2) (.list (bs.map PyData.bool)) = true := by
  simp only [okd, List.length_map, decide_eq_true h, Bool.true_and, List.all_eq_true]
  intro d hd
  obtain ⟨b, _, rfl⟩ := List.mem_map.mp hd
  rfl
theorem sizes_signs (l : List Nat) : ((l.map fun c => (⟨#[c]⟩ : Str)).map (·.length)).sum = l.length := by
  induction l with
  | nil => rfl
  | cons c r ih =>
    rw [List.map_cons, List.map_cons, List.sum_cons, ih, List.length_cons]
    show 1 + r.length = r.length + 1
    omega
theorem itm_abc {K : PySem.W.Frag} {H : Hp} {b : Addr} : Itm K H b (.str "abcdefghijklmnopqrstuvwxyz") (abc.map fun c => V.str ⟨#[c]⟩) := .inl ⟨_, rfl, by rw [abc_str, SX.S_len, abc_len]; decide, by rw [abc_str]⟩
end Ag
namespace Ag
open PySem PySem.Spec PyProof.Rows L2
theorem tyx_kp {K : PySem.W.Frag} {b : Addr} {H H' : Hp} (k : Kp b H H') {x : V} {t : Value} (h : TyX K H x t) (n : x ≠ .ref b) : TyX K H' x t := by
  have nb : ∀ a, V.ref a ≠ .ref b → a ≠ b := fun a z e => z (by rw [e])
  cases h with
  | base h =>
    refine .base ?_
    cases h with
    | non => exact .non
    | bl y => exact .bl y
    | int i => exact .int i
    | str y => exact .str y
    | flt y => exact .flt y
    | lst e => exact .lst (k _ _ e (nb _ n))
    | frz e => exact .frz (k _ _ e (nb _ n))
    | tup e => exact .tup (k _ _ e (nb _ n))
    | dK e => exact .dK (k _ _ e (nb _ n))
    | dT e => exact .dT (k _ _ e (nb _ n))
    | ins e cl ha hn htk hm => exact .ins (k _ _ e (nb _ n)) cl ha hn htk hm
  | byt y => exact .byt y
  | set e => exact .set (k _ _ e (nb _ n))
  | kList e c => exact .kList e c
  | kTuple e c => exact .kTuple e c
  | kDict e c => exact .kDict e c
  | fTuple e => exact .fTuple (k _ _ e (nb _ n))
  | fDict e => exact .fDict (k _ _ e (nb _ n))
theorem tyx_same {K : PySem.W.Frag} {H H' : Hp} (k : Same H H') {x : V} {t : Value} (h : TyX K H x t) : TyX K H' x t := by
  cases h with
  | base h =>
    refine .base ?_
    cases h with
    | non => exact .non
    | bl y => exact .bl y
    | int i => exact .int i
    | str y => exact .str y
    | flt y => exact .flt y
    | lst e => exact .lst (k _ _ e)
    | frz e => exact .frz (k _ _ e)
    | tup e => exact .tup (k _ _ e)
    | dK e => exact .dK (k _ _ e)
    | dT e => exact .dT (k _ _ e)
    | ins e cl ha hn htk hm => exact .ins (k _ _ e) cl ha hn htk hm
  | byt y => exact .byt y
  | set e => exact .set (k _ _ e)
  | kList e c => exact .kList e c
  | kTuple e c => exact .kTuple e c
  | kDict e c => exact .kDict e c
  | fTuple e => exact .fTuple (k _ _ e)
  | fDict e => exact .fDict (k _ _ e)
theorem NoStr.kp {K : PySem.W.Frag} {b : Addr} {H H' : Hp} (k : Kp b H H') {x : V} (h : NoStr K H x) (n : x ≠ .ref b) : NoStr K H' x := by
  obtain ⟨t, h1, h2⟩ := h
  exact ⟨t, tyx_kp k h1 n, h2⟩
theorem NoStr.same {K : PySem.W.Frag} {H H' : Hp} (k : Same H H') {x : V} (h : NoStr K H x) : NoStr K H' x := by
  obtain ⟨t, h1, h2⟩ := h
  exact ⟨t, tyx_same k h1, h2⟩
theorem nostr_non {K : PySem.W.Frag} {H : Hp} : NoStr K H .non := ⟨_, .base .non, kit_ty (by decide +kernel)⟩
theorem nostr_int {K : PySem.W.Frag} {H : Hp} {i : Int} : NoStr K H (.int i) := ⟨_, .base (.int i), kit_ty (by decide +kernel)⟩
theorem nostr_bl {K : PySem.W.Frag} {H : Hp} {c : Bool} : NoStr K H (.bl c) := ⟨_, .base (.bl c), kit_ty (by decide +kernel)⟩
theorem nostr_tup {K : PySem.W.Frag} {H : Hp} {a : Addr} {xs : List V} (h : H a = some (.tup xs)) : NoStr K H (.ref a) := ⟨_, .base (.tup h), kit_ty (by decide +kernel)⟩
theorem nostr_lst {K : PySem.W.Frag} {H : Hp} {a : Addr} {xs : List V} (h : H a = some (.lst xs)) : NoStr K H (.ref a) := ⟨_, .base (.lst h), kit_ty (by decide +kernel)⟩
/-- 'join of drawn signs': the turn's word, and what it is in the end -/
def Sgn (b l D : Addr) (H0 : Hp) (i : Nat) (H' : Hp) : Prop := ∃ cs : List Nat, Low cs ∧ cs.length = i ∧ Kp b H0 H' ∧ Bag H' b l ∧ H' D = some (.lst ((cs.map fun c => (⟨#[c]⟩ : Str)).map V.str))
end Ag
namespace Ag
open PySem PySem.Spec PyProof.Rows L2
/-- whether a value is a letter, a name -/
def LetIs (K : PySem.W.Frag) (H : Hp) (x : V) (ok : Bool) : Prop := (∃ cs : List Nat, x = .str (SX.S cs) ∧ cs.length ≤ 1000 ∧ ok = isLet cs) ∨ (NoStr K H x ∧ ok = false)
def NameIs (K : PySem.W.Frag) (H : Hp) (x : V) (ok : Bool) : Prop := (∃ cs : List Nat, x = .str (SX.S cs) ∧ cs.length ≤ 1000 ∧ ok = isNm cs) ∨ (NoStr K H x ∧ ok = false)
theorem name_is {K : PySem.W.Frag} {H : Hp} {cs : List Nat} (h : cs.length ≤ 1000) : NameIs K H (.str (SX.S cs)) (isNm cs) := .inl ⟨cs, rfl, h, rfl⟩
theorem NameIs.same {K : PySem.W.Frag} {H H' : Hp} (s : Same H H') {x : V} {ok : Bool} (h : NameIs K H x ok) : NameIs K H' x ok := by
  rcases h with h | ⟨h, e⟩
  · exact .inl h
  · exact .inr ⟨h.same s, e⟩
end Ag
namespace Ag
open PySem PySem.Spec PyProof.Rows L2
/-! ### a def of the module, as the top leaves it -/
structure Df (K : PySem.W.Frag) (mg : Str → Option Value) (x : Str) (st : Stmt) (ps : List Str) (f : Addr) (fd : FuncData) : Prop where
  fn : Fun K x x st f fd
  mg : mg x = some (.ref f)
  bi : Binds K fd ps []
theorem Df.cal {P : Program} {w : World} {K : PySem.W.Frag} {mg : Str → Option Value} {base : Heap} {x : Str} {st : Stmt} {ps : List Str} {f : Addr} {fd : FuncData} {k : Nat} {sp : Sp} (D : Df K mg x st ps f fd) (o : FnOk P w K mg base CX0 k f fd ps sp) : C8.Cal P w K mg base k x sp [] :=
  ⟨f, fd, ps, [], o, D.mg, D.fn.kp, D.bi, .nil⟩
theorem df_mk {K : PySem.W.Frag} {h : Heap} {mg : Str → Option Value} {x : Str} {st : Stmt} {ps : List Str} {f : Addr} {od an : Option Addr} {sl : Array (Option Value)} {oc kV dc pm cd ct : Value} (X : K.In h) (G : h.Ns mainGlobals mg)
    (hb : ∀ (kV doc pm : Value) (an : Option Addr) (cdv ct : Value) (us : List Value), us.length = ps.length → bindArgs (PySem.W.fnOf x x (defArgs st) (defBody st) (defScope st) .none kV doc pm an cdv ct) ⟨us, []⟩ = pure (ps.zip us))
    (a : PySem.W.nsIn K mainGlobals x = some (some (.ref f))) (l : K.lookup f = some ⟨oc, od, .func (PySem.W.fnOf x x (defArgs st) (defBody st) (defScope st) .none kV dc pm an cd ct), sl⟩) (c : PySem.W.codeIn K cd x = true) (k : PySem.W.keepIn K (.ref f) = true) :
    Df K mg x st ps f (PySem.W.fnOf x x (defArgs st) (defBody st) (defScope st) .none kV dc pm an cd ct) := by
  have F := fun_mk (st := st) l c k
  exact ⟨F, PySem.W.mg_of X G a, F.binds hb⟩
theorem Df.kw {K : PySem.W.Frag} {mg : Str → Option Value} {x : Str} {st : Stmt} {ps ks : List Str} {f : Addr} {fd : FuncData} {g : List Value → List Value} {gV : List V → List V} (D : Df K mg x st ps f fd)
    (h : ∀ (kV doc pm : Value) (an : Option Addr) (cdv ct : Value) (ws : List Value), ws.length = ks.length → bindArgs (PySem.W.fnOf x x (defArgs st) (defBody st) (defScope st) .none kV doc pm an cdv ct) ⟨[], ks.zip ws⟩ = pure (ps.zip (g ws)))
    (rel : ∀ {zs : List V} {ws : List Value}, Vals zs ws → Vals (gV zs) (g ws)) : KW0 fd ps ks g gV := by
  obtain ⟨oc, od, kV, doc, pm, an, cdv, ct, osl, rfl, lk, hcd⟩ := D.fn.ex
  exact ⟨fun s ws l => .of_eq (h kV doc pm an cdv ct ws l), rel⟩
end Ag
namespace Ag
open PySem PySem.Spec PyProof.Rows L2
theorem tseq {t u : TS} {D : Ends} {σ : L2.St} {H : Hp} (Mid : L2.St → Hp → Prop) (h2 : ∀ σ' H', Mid σ' H' → u D σ' H') (h1 : (∀ σ' H', Mid σ' H' → u D σ' H') → tSeq t u D σ H) : tSeq t u D σ H := h1 h2
theorem kp_upd {b : Addr} {H : Hp} {o : HO} : Kp b H (upd H b o) := fun c u e n => by rw [upd_ne n]; exact e
theorem fm_in (t : Int) {m : Int} (hm : 0 < m) : 0 ≤ t.fmod m ∧ t.fmod m < m := by
  rw [Int.fmod_eq_emod_of_nonneg t (by omega)]
  exact ⟨Int.emod_nonneg t (by omega), Int.emod_lt_of_pos t hm⟩
end Ag
namespace Ag
open PySem PySem.Spec PyProof.Rows L2
structure LikeM (mg : Str → Option Value) : Prop where
  isi : mg "isinstance" = none
  dict : mg "dict" = none
  list : mg "list" = none
  tuple : mg "tuple" = none
  bool : mg "bool" = none
  int : mg "int" = none
  str : mg "str" = none
  len : mg "len" = none
  all : mg "all" = none
  zip : mg "zip" = none
  sorted : mg "sorted" = none
structure NamesM (mg : Str → Option Value) : Prop where
  range : mg "range" = none
  int : mg "int" = none
  len : mg "len" = none
structure NameM (mg : Str → Option Value) : Prop where
  isi : mg "isinstance" = none
  str : mg "str" = none
  len : mg "len" = none
  all : mg "all" = none
  letters : ∃ t, mg "LETTERS" = some (.str "abcdefghijklmnopqrstuvwxyz" t)
  longest : ∃ t, mg "LONGEST_NAME" = some (.int 6 t)
end Ag
namespace Ag
open PySem PySem.Spec PyProof.Rows L2
/-! ### what may be read stays so -/
def RdLe (H H' : Hp) : Prop := ∀ c u, Rd H c u → Rd H' c u
theorem RdLe.of {H H' : Hp} (s : Same H H') : RdLe H H' := fun c u h => by
  rcases h with h | ⟨o, h⟩
  · exact .inl (s _ _ h)
  · exact .inr ⟨o, s _ _ h⟩
theorem RdLe.lock {H : Hp} {a : Addr} {u : HO} (h : H a = some u) (mu : Mut (some u)) (od : Obj) : RdLe H (upd H a (.frz od u)) := fun c v q => by
  by_cases e : c = a
  · subst e
    rcases q with q | ⟨o, q⟩
    · rw [h] at q
      cases q
      exact .inr ⟨od, upd_same⟩
    · rw [h] at q
      cases q
      exact mu.elim
  · rcases q with q | ⟨o, q⟩
    · exact .inl (by rw [upd_ne e]; exact q)
    · exact .inr ⟨o, by rw [upd_ne e]; exact q⟩
theorem RdLe.seqL {K : PySem.W.Frag} {H H' : Hp} {a : Addr} {xs : List V} (s : RdLe H H') (h : SqL K H a xs) : SqL K H' a xs := h.imp (s _ _) id
theorem RdLe.seqT {K : PySem.W.Frag} {H H' : Hp} {a : Addr} {xs : List V} (s : RdLe H H') (h : SqT K H a xs) : SqT K H' a xs := h.imp (s _ _) id
theorem Dp_rd {K : PySem.W.Frag} {H H' : Hp} (s : RdLe H H') {d : PyData} {v : V} (h : Dp K H v d) : Dp K H' v d :=
  Dp.rec (motive_1 := fun v d _ => Dp K H' v d) (motive_2 := fun vs ds _ => DpAll K H' vs ds) .non .bl .int .str
    (fun q _ ih => .lst (s.seqL q) ih) (fun q _ ih => .tup (s.seqT q) ih) .nil (fun _ _ a b => .cons a b) h
/-! ### data with dicts, the order of whose keys means nothing -/
def keyD : Key → PyData
  | .inl i => .int i
  | .inr x => .str x
mutual
inductive Da (K : PySem.W.Frag) (H : Hp) : V → PyData → Prop
  | non : Da K H .non .none
  | bl (b : Bool) : Da K H (.bl b) (.bool b)
  | int (i : Int) : Da K H (.int i) (.int i)
  | str (x : Str) : Da K H (.str x) (.str x)
  | lst {a : Addr} {xs : List V} {ds : List PyData} : SqL K H a xs → DaAll K H xs ds → Da K H (.ref a) (.list ds)
  | tup {a : Addr} {xs : List V} {ds : List PyData} : SqT K H a xs → DaAll K H xs ds → Da K H (.ref a) (.tuple ds)
  | dic {a : Addr} {kvs kvs' : List (Key × V)} {es : List (PyData × PyData)} : H a = some (.dK kvs) → kvs.Perm kvs' → (kvs.map (·.1)).Nodup → Paired (fun kv e => e.1 = keyD kv.1 ∧ Dp K H kv.2 e.2) kvs' es → Da K H (.ref a) (.dict es)
inductive DaAll (K : PySem.W.Frag) (H : Hp) : List V → List PyData → Prop
  | nil : DaAll K H [] []
  | cons {v : V} {vs : List V} {d : PyData} {ds : List PyData} : Da K H v d → DaAll K H vs ds → DaAll K H (v :: vs) (d :: ds)
end
theorem Da_of {K : PySem.W.Frag} {H : Hp} {d : PyData} {v : V} (h : Dp K H v d) : Da K H v d :=
  Dp.rec (motive_1 := fun v d _ => Da K H v d) (motive_2 := fun vs ds _ => DaAll K H vs ds) .non .bl .int .str
    (fun q _ ih => .lst q ih) (fun q _ ih => .tup q ih) .nil (fun _ _ a b => .cons a b) h
theorem paired_imp {α β : Type} {F G : α → β → Prop} (f : ∀ a b, F a b → G a b) : ∀ {l₁ : List α} {l₂ : List β}, Paired F l₁ l₂ → Paired G l₁ l₂
  | _, _, .nil => .nil
  | _, _, .cons r t => .cons (f _ _ r) (paired_imp f t)
theorem Da_same {K : PySem.W.Frag} {H H' : Hp} (s : Same H H') {d : PyData} {v : V} (h : Da K H v d) : Da K H' v d :=
  Da.rec (motive_1 := fun v d _ => Da K H' v d) (motive_2 := fun vs ds _ => DaAll K H' vs ds) .non .bl .int .str
    (fun q _ ih => .lst (s.seq q) ih) (fun q _ ih => .tup (sameT s q) ih) (fun q p n r => .dic (s _ _ q) p n (paired_imp (fun _ _ z => ⟨z.1, Dp_same s z.2⟩) r)) .nil (fun _ _ a b => .cons a b) h
theorem daall_len {K : PySem.W.Frag} {H : Hp} : ∀ {vs : List V} {ds : List PyData}, DaAll K H vs ds → vs.length = ds.length
  | _, _, .nil => rfl
  | _, _, .cons _ b => congrArg (· + 1) (daall_len b)
theorem daall_get {K : PySem.W.Frag} {H : Hp} : ∀ {vs : List V} {ds : List PyData} {i : Nat} {v : V}, DaAll K H vs ds → vs[i]? = some v → ∃ d, ds[i]? = some d ∧ Da K H v d
  | _, _, _, _, .nil, e => by simp at e
  | _, _, 0, _, .cons a _, e => by
    simp at e
    subst e
    exact ⟨_, rfl, a⟩
  | _, _, i + 1, _, .cons _ b, e => by
    obtain ⟨d, h1, h2⟩ := daall_get (i := i) b (by simpa using e)
    exact ⟨d, by simpa using h1, h2⟩
/-- keys that are texts -/
def isStrD : PyData → Bool
  | .str x => x.cps.all (· < 0x110000)
  | _ => false
/-- less than n deep, at most 1000 items in a list, less than 64 texts as keys of a dict -/
def oka : Nat → PyData → Bool
  | 0, _ => false
  | n + 1, .list ds => decide (ds.length ≤ 1000) && ds.all (oka n)
  | n + 1, .tuple ds => decide (ds.length ≤ 1000) && ds.all (oka n)
  | n + 1, .dict es => decide (es.length < 64) && es.all fun e => isStrD e.1 && oka n e.2
  | _ + 1, _ => true
theorem da_tyx {K : PySem.W.Frag} {H : Hp} {v : V} {d : PyData} (h : Da K H v d) : TyX K H v (.type (tyD d)) := by
  cases h with
  | non => exact .base .non
  | bl b => exact .base (.bl b)
  | int i => exact .base (.int i)
  | str x => exact .base (.str x)
  | lst q _ =>
    rcases q with (q | ⟨o, q⟩) | ⟨o, its, n, e, c, _⟩
    · exact .base (.lst q)
    · exact .base (.frz q)
    · exact .kList e c
  | tup q _ =>
    rcases q with (q | ⟨o, q⟩) | ⟨o, its, n, e, c, _⟩
    · exact .base (.tup q)
    · exact .fTuple q
    · exact .kTuple e c
  | dic q _ _ _ => exact .base (.dK q)
theorem isD_nodict {d : PyData} (h : ∀ es, d ≠ .dict es) : isD "dict" d = false := by
  cases d with
  | dict es => exact absurd rfl (h es)
  | _ => simp only [isD, tyD]; decide +kernel
theorem isD_dic {es : List (PyData × PyData)} : isD "dict" (.dict es) = true := by
  simp only [isD, tyD]
  decide +kernel
end Ag
namespace Ag
open PySem PySem.Spec PyProof.Rows L2
/-! ### two sorted lists of the same texts are one -/
theorem lc_anti : ∀ a b : List Nat, ltCps a b = false → ltCps b a = false → a = b
  | [], [], _, _ => rfl
  | [], _ :: _, h, _ => by simp [ltCps] at h
  | _ :: _, [], _, h => by simp [ltCps] at h
  | a :: r, b :: t, h1, h2 => by
    simp only [ltCps, Bool.or_eq_false_iff, decide_eq_false_iff_not, Bool.and_eq_false_iff, beq_eq_false_iff_ne] at h1 h2
    have e : a = b := by omega
    subst e
    have k1 : ltCps r t = false := by rcases h1.2 with z | z; exact absurd rfl z; exact z
    have k2 : ltCps t r = false := by rcases h2.2 with z | z; exact absurd rfl z; exact z
    rw [lc_anti r t k1 k2]
theorem lc_trans : ∀ a b c : List Nat, ltCps b a = false → ltCps c b = false → ltCps c a = false
  | [], _, [], _, _ => rfl
  | [], _, _ :: _, _, _ => rfl
  | _ :: _, [], _, h, _ => by simp [ltCps] at h
  | _ :: _, _ :: _, [], _, h => by simp [ltCps] at h
  | a :: r, b :: t, c :: u, h1, h2 => by
    simp only [ltCps, Bool.or_eq_false_iff, decide_eq_false_iff_not, Bool.and_eq_false_iff, beq_eq_false_iff_ne] at h1 h2 ⊢
    refine ⟨by omega, ?_⟩
    by_cases e : c = a
    · right
      have e1 : b = a := by omega
      have e2 : c = b := by omega
      have k1 : ltCps t r = false := by rcases h1.2 with z | z; exact absurd e1 z; exact z
      have k2 : ltCps u t = false := by rcases h2.2 with z | z; exact absurd e2 z; exact z
      exact lc_trans r t u k1 k2
    · exact .inl e
theorem rising_all : ∀ (l : List Str) (p : Str), risingS p l = true → (∀ x ∈ l, ltCps x.cps.toList p.cps.toList = false) ∧ l.Pairwise (fun a b => ltCps b.cps.toList a.cps.toList = false)
  | [], _, _ => ⟨fun x h => (by cases h), List.Pairwise.nil⟩
  | y :: r, p, h => by
    simp only [risingS, Bool.and_eq_true, Bool.not_eq_true'] at h
    obtain ⟨h1, h2⟩ := rising_all r y h.2
    refine ⟨fun x hx => ?_, .cons h1 h2⟩
    rcases List.mem_cons.mp hx with rfl | hx
    · exact h.1
    · exact lc_trans _ _ _ h.1 (h1 x hx)
theorem sorted_pw {l : List Str} (h : sortedS l = true) : l.Pairwise (fun a b => ltCps b.cps.toList a.cps.toList = false) := by
  cases l with
  | nil => exact .nil
  | cons x r =>
    obtain ⟨h1, h2⟩ := rising_all r x h
    exact .cons h1 h2
theorem perm_one {α : Type} {le : α → α → Prop} (anti : ∀ a b, le a b → le b a → a = b) : ∀ {a b : List α}, a.Perm b → a.Pairwise le → b.Pairwise le → a = b
  | [], [], _, _, _ => rfl
  | [], y :: t, p, _, _ => absurd p.length_eq (by simp)
  | x :: r, [], p, _, _ => absurd p.length_eq (by simp)
  | x :: r, y :: t, p, ha, hb => by
    obtain ⟨a1, a2⟩ := List.pairwise_cons.mp ha
    obtain ⟨b1, b2⟩ := List.pairwise_cons.mp hb
    have e : x = y := by
      have hx : x ∈ y :: t := p.mem_iff.mp (by simp)
      have hy : y ∈ x :: r := p.mem_iff.mpr (by simp)
      rcases List.mem_cons.mp hx with e | hx
      · exact e
      rcases List.mem_cons.mp hy with e | hy
      · exact e.symm
      exact anti _ _ (a1 y hy) (b1 x hx)
    subst e
    rw [perm_one anti p.cons_inv a2 b2]
theorem sorted_one {a b : List Str} (p : a.Perm b) (ha : sortedS a = true) (hb : sortedS b = true) : a = b := by
  refine perm_one (le := fun a b => ltCps b.cps.toList a.cps.toList = false) (fun x y h1 h2 => ?_) p (sorted_pw ha) (sorted_pw hb)
  have e := lc_anti _ _ h2 h1
  exact TL.ext_tl e
theorem dpall_strs {K : PySem.W.Frag} {H : Hp} : ∀ ys : List Str, DpAll K H (ys.map V.str) (ys.map PyData.str)
  | [] => .nil
  | y :: r => .cons (.str y) (dpall_strs r)
end Ag
namespace Ag
open PySem PySem.Spec PyProof.Rows L2
theorem lay_strs : ∀ ys : List Str, (∀ y ∈ ys, (y.cps.all (· < 0x110000)) = true) → PyData.canLayAll0 (ys.map PyData.str) = true
  | [], _ => rfl
  | y :: r, h => by
    show (PyData.canLay0 (.str y) && PyData.canLayAll0 (r.map PyData.str)) = true
    rw [lay_strs r fun z hz => h z (List.mem_cons_of_mem _ hz), Bool.and_true]
    exact h y (by simp)
theorem depth_strs : ∀ ys : List Str, PyData.depthAll (ys.map PyData.str) = 0
  | [] => rfl
  | y :: r => by
    show max 0 (PyData.depthAll (r.map PyData.str)) = 0
    rw [depth_strs r]
    rfl
theorem shaped_strs {ys : List Str} (h : ∀ y ∈ ys, (y.cps.all (· < 0x110000)) = true) : SeqAt.shaped (.list (ys.map PyData.str)) = true := by
  unfold SeqAt.shaped
  rw [Bool.and_eq_true]
  refine ⟨lay_strs ys h, ?_⟩
  show decide (PyData.depthAll (ys.map PyData.str) + 1 ≤ 64) = true
  rw [depth_strs]
  decide
/-- the entries of a dict with text keys, by its data -/
theorem dic_keys {n : Nat} {kvs : List (Key × V)} {es : List (PyData × PyData)} {R : Key × V → PyData × PyData → Prop} (hr : ∀ kv e, R kv e → e.1 = keyD kv.1) (ok : oka (n + 1) (.dict es) = true) (r : Paired R kvs es) :
    ∃ ks : List Str, (kvs.map fun kv => kV kv.1) = ks.map V.str ∧ ks.length = es.length ∧ (∀ y ∈ ks, (y.cps.all (· < 0x110000)) = true) ∧ es.map (·.1) = ks.map PyData.str ∧ kvs.map (·.1) = ks.map Sum.inr := by
  have ok2 : ∀ e ∈ es, isStrD e.1 = true := by
    simp only [oka, Bool.and_eq_true, List.all_eq_true] at ok
    exact fun e he => (ok.2 e he).1
  clear ok
  induction r with
  | nil => exact ⟨[], rfl, rfl, fun y h => (by cases h), rfl, rfl⟩
  | @cons kv e kvs es h t ih =>
    obtain ⟨ks, h1, h2, h3, h4, h5⟩ := ih fun e he => ok2 e (List.mem_cons_of_mem _ he)
    have he := hr _ _ h
    have hs := ok2 e (by simp)
    obtain ⟨k, v⟩ := kv
    cases k with
    | inl i => rw [he] at hs; cases hs
    | inr x =>
      rw [he] at hs
      refine ⟨x :: ks, by rw [List.map_cons, h1]; rfl, by simp [h2], fun y hy => ?_, by rw [List.map_cons, h4, he]; rfl, by rw [List.map_cons, h5]; rfl⟩
      rcases List.mem_cons.mp hy with rfl | hy
      · exact hs
      · exact h3 y hy
theorem valV_of {kvs : List (Key × V)} (nd : (kvs.map (·.1)).Nodup) {k : Key} {v : V} (h : (k, v) ∈ kvs) : valV kvs k = some v := by
  induction kvs with
  | nil => cases h
  | cons p r ih =>
    rw [List.map_cons, List.nodup_cons] at nd
    rcases List.mem_cons.mp h with e | h
    · rw [← e]
      exact valV_pos rfl
    · rw [valV_neg]
      · exact ih nd.2 h
      · intro e
        exact nd.1 (by rw [e]; exact List.mem_map.mpr ⟨_, h, rfl⟩)
theorem paired_mem {α β : Type} {R : α → β → Prop} : ∀ {l : List α} {m : List β}, Paired R l m → ∀ {a : α}, a ∈ l → ∃ b, b ∈ m ∧ R a b
  | _, _, .nil, _, h => by cases h
  | _, _, .cons r t, a, h => by
    rcases List.mem_cons.mp h with rfl | h
    · exact ⟨_, by simp, r⟩
    · obtain ⟨b, h1, h2⟩ := paired_mem t h
      exact ⟨b, by simp [h1], h2⟩
theorem paired_mem2 {α β : Type} {R : α → β → Prop} : ∀ {l : List α} {m : List β}, Paired R l m → ∀ {b : β}, b ∈ m → ∃ a, a ∈ l ∧ R a b
  | _, _, .nil, _, h => by cases h
  | _, _, .cons r t, b, h => by
    rcases List.mem_cons.mp h with rfl | h
    · exact ⟨_, by simp, r⟩
    · obtain ⟨a, h1, h2⟩ := paired_mem2 t h
      exact ⟨a, by simp [h1], h2⟩
end Ag

namespace Ag
open PySem PySem.Spec PyProof.Rows L2
/-! ### formulas and shapes -/
inductive Fm where
  | fls
  | atom (w : List Nat)
  | hole (c : List Nat)
  | bin (k : Fin 3) (a b : Fm)
  deriving DecidableEq
/-- the joints: 0 then, 1 and, otherwise or -/
def kd (k : Fin 3) : Str := match k with
  | 0 => "then"
  | 1 => "and"
  | 2 => "or"
def Fm.dat : Fm → PyData
  | .fls => .tuple [.str "false"]
  | .atom w => .tuple [.str "atom", .str (SX.S w)]
  | .hole c => .tuple [.str "hole", .str (SX.S c)]
  | .bin k a b => .tuple [.str (kd k), a.dat, b.dat]
def Fr (K : PySem.W.Frag) (H : Hp) (v : V) (t : Fm) : Prop := Dp K H v t.dat
section
variable {K : PySem.W.Frag} {H H' : Hp} {v x y : V} {b l : Addr}
theorem dpall2 {xs : List V} {d e : PyData} (h : DpAll K H xs [d, e]) : ∃ x y, xs = [x, y] ∧ Dp K H x d ∧ Dp K H y e := by
  cases h with
  | cons h1 h => cases h with
    | cons h2 h =>
      cases h
      exact ⟨_, _, rfl, h1, h2⟩
theorem dpall3 {xs : List V} {d e g : PyData} (h : DpAll K H xs [d, e, g]) : ∃ x y z, xs = [x, y, z] ∧ Dp K H x d ∧ Dp K H y e ∧ Dp K H z g := by
  cases h with
  | cons h1 h => cases h with
    | cons h2 h => cases h with
      | cons h3 h =>
        cases h
        exact ⟨_, _, _, rfl, h1, h2, h3⟩
theorem fr_fls (h : Fr K H v .fls) : ∃ p, v = .ref p ∧ SqT K H p [.str "false"] := by
  cases h with
  | tup q r =>
    cases r with
    | cons h1 h =>
      cases h
      cases h1
      exact ⟨_, rfl, q⟩
theorem fr_atom {w : List Nat} (h : Fr K H v (.atom w)) : ∃ p, v = .ref p ∧ SqT K H p [.str "atom", .str (SX.S w)] := by
  cases h with
  | tup q r =>
    obtain ⟨x, y, rfl, h1, h2⟩ := dpall2 r
    cases h1
    cases h2
    exact ⟨_, rfl, q⟩
theorem fr_hole {w : List Nat} (h : Fr K H v (.hole w)) : ∃ p, v = .ref p ∧ SqT K H p [.str "hole", .str (SX.S w)] := by
  cases h with
  | tup q r =>
    obtain ⟨x, y, rfl, h1, h2⟩ := dpall2 r
    cases h1
    cases h2
    exact ⟨_, rfl, q⟩
theorem fr_bin {k : Fin 3} {s t : Fm} (h : Fr K H v (.bin k s t)) : ∃ p x y, v = .ref p ∧ SqT K H p [.str (kd k), x, y] ∧ Fr K H x s ∧ Fr K H y t := by
  cases h with
  | tup q r =>
    obtain ⟨x, y, z, rfl, h1, h2, h3⟩ := dpall3 r
    cases h1
    exact ⟨_, _, _, rfl, q, h2, h3⟩
theorem mk_fls {p : Addr} (h : SqT K H p [.str "false"]) : Fr K H (.ref p) .fls := .tup h (.cons (.str _) .nil)
theorem mk_atom {p : Addr} {w : List Nat} (h : SqT K H p [.str "atom", .str (SX.S w)]) : Fr K H (.ref p) (.atom w) := .tup h (.cons (.str _) (.cons (.str _) .nil))
theorem mk_hole {p : Addr} {w : List Nat} (h : SqT K H p [.str "hole", .str (SX.S w)]) : Fr K H (.ref p) (.hole w) := .tup h (.cons (.str _) (.cons (.str _) .nil))
theorem mk_bin {p : Addr} {k : Fin 3} {s t : Fm} (h : SqT K H p [.str (kd k), x, y]) (hs : Fr K H x s) (ht : Fr K H y t) : Fr K H (.ref p) (.bin k s t) := .tup h (.cons (.str _) (.cons hs (.cons ht .nil)))
theorem Fr.same (s : Same H H') {t : Fm} (h : Fr K H v t) : Fr K H' v t := Dp_same s h
theorem Fr.rd (s : RdLe H H') {t : Fm} (h : Fr K H v t) : Fr K H' v t := Dp_rd s h
theorem kp_tup (k : Kp b H H') (g : Bag H b l) {p : Addr} {xs : List V} (h : SqT K H p xs) : SqT K H' p xs := by
  obtain ⟨ns, at', big, seed, cnt, h1, _⟩ := g
  rcases h with (h | ⟨o, h⟩) | h
  · exact .inl (.inl (k _ _ h (ne_of h h1 (by intro z; cases z))))
  · exact .inl (.inr ⟨o, k _ _ h (ne_of h h1 (by intro z; cases z))⟩)
  · exact .inr h
theorem Fr.kp (k : Kp b H H') (g : Bag H b l) : ∀ {t : Fm} {v : V}, Fr K H v t → Fr K H' v t
  | .fls, _, h => by
    obtain ⟨p, rfl, q⟩ := fr_fls h
    exact mk_fls (kp_tup k g q)
  | .atom w, _, h => by
    obtain ⟨p, rfl, q⟩ := fr_atom h
    exact mk_atom (kp_tup k g q)
  | .hole w, _, h => by
    obtain ⟨p, rfl, q⟩ := fr_hole h
    exact mk_hole (kp_tup k g q)
  | .bin j s t, _, h => by
    obtain ⟨p, x, y, rfl, q, hs, ht⟩ := fr_bin h
    exact mk_bin (kp_tup k g q) (Fr.kp k g hs) (Fr.kp k g ht)
end
/-- less than n deep, atoms of ws, holes of hs -/
def okF (ws hs : List (List Nat)) : Nat → Fm → Prop
  | 0, _ => False
  | _ + 1, .fls => True
  | _ + 1, .atom w => w ∈ ws
  | _ + 1, .hole c => c ∈ hs
  | n + 1, .bin _ a b => okF ws hs n a ∧ okF ws hs n b
theorem okF.up {ws hs : List (List Nat)} : ∀ {n : Nat} {t : Fm}, okF ws hs n t → okF ws hs (n + 1) t
  | 0, _, h => h.elim
  | _ + 1, .fls, _ => trivial
  | _ + 1, .atom _, h => h
  | _ + 1, .hole _, h => h
  | _ + 1, .bin _ _ _, h => ⟨okF.up h.1, okF.up h.2⟩
theorem okF.le {ws hs : List (List Nat)} {t : Fm} {n m : Nat} (h : okF ws hs n t) (e : n ≤ m) : okF ws hs m t := by
  induction e with
  | refl => exact h
  | step _ ih => exact ih.up
theorem okF.holes {ws hs hs' : List (List Nat)} (hh : ∀ c ∈ hs, c ∈ hs') : ∀ {n : Nat} {t : Fm}, okF ws hs n t → okF ws hs' n t
  | 0, _, h => h.elim
  | _ + 1, .fls, _ => trivial
  | _ + 1, .atom _, h => h
  | _ + 1, .hole _, h => hh _ h
  | _ + 1, .bin _ _ _, h => ⟨okF.holes hh h.1, okF.holes hh h.2⟩
theorem atI_kd (k : Fin 3) : atI ([.str "then", .str "and", .str "or"] : List V) ((k.val : Nat) : Int) = some (.str (kd k)) := by
  match k with
  | 0 => rfl
  | 1 => rfl
  | 2 => rfl
theorem kd_inj {k j : Fin 3} : kd k = kd j → k = j := by
  revert k j
  decide +kernel
theorem kd_atom {k : Fin 3} : kd k ≠ "atom" := by
  revert k
  decide +kernel
theorem kd_hole {k : Fin 3} : kd k ≠ "hole" := by
  revert k
  decide +kernel
theorem kd_false {k : Fin 3} : kd k ≠ "false" := by
  revert k
  decide +kernel
/-! ### equality of data is equality of formulas -/
theorem beq_S (a b : List Nat) : (SX.S a == SX.S b) = decide (a = b) := SX.S_beq_eq
theorem eqvStr (a b : Str) : PyData.eqv (.str a) (.str b) = decide (a = b) := by
  show (a == b) = decide (a = b)
  rw [← SX.S_tl a, ← SX.S_tl b, beq_S]
  by_cases h : a.cps.toList = b.cps.toList
  · rw [decide_eq_true h, decide_eq_true (by rw [h])]
  · rw [decide_eq_false h, decide_eq_false (fun z => h (SX.S_inj z))]
theorem eqv1 (a b : PyData) : PyData.eqv (.tuple [a]) (.tuple [b]) = PyData.eqv a b := by
  show (PyData.eqv a b && true) = _
  rw [Bool.and_true]
theorem eqv2 (a b c d : PyData) : PyData.eqv (.tuple [a, c]) (.tuple [b, d]) = (PyData.eqv a b && PyData.eqv c d) := by
  show (PyData.eqv a b && (PyData.eqv c d && true)) = _
  rw [Bool.and_true]
theorem eqv3 (a b c d e f : PyData) : PyData.eqv (.tuple [a, c, e]) (.tuple [b, d, f]) = (PyData.eqv a b && (PyData.eqv c d && PyData.eqv e f)) := by
  show (PyData.eqv a b && (PyData.eqv c d && (PyData.eqv e f && true))) = _
  rw [Bool.and_true]
theorem eqv12 (a b c : PyData) : PyData.eqv (.tuple [a]) (.tuple [b, c]) = false := by
  show (PyData.eqv a b && false) = false
  rw [Bool.and_false]
theorem eqv21 (a b c : PyData) : PyData.eqv (.tuple [a, c]) (.tuple [b]) = false := by
  show (PyData.eqv a b && false) = false
  rw [Bool.and_false]
theorem eqv13 (a b c d : PyData) : PyData.eqv (.tuple [a]) (.tuple [b, c, d]) = false := by
  show (PyData.eqv a b && false) = false
  rw [Bool.and_false]
theorem eqv31 (a b c d : PyData) : PyData.eqv (.tuple [a, c, d]) (.tuple [b]) = false := by
  show (PyData.eqv a b && false) = false
  rw [Bool.and_false]
theorem eqv23 (a b c d e : PyData) : PyData.eqv (.tuple [a, b]) (.tuple [c, d, e]) = false := by
  show (PyData.eqv a c && (PyData.eqv b d && false)) = false
  rw [Bool.and_false, Bool.and_false]
theorem eqv32 (a b c d e : PyData) : PyData.eqv (.tuple [c, d, e]) (.tuple [a, b]) = false := by
  show (PyData.eqv c a && (PyData.eqv d b && false)) = false
  rw [Bool.and_false, Bool.and_false]
theorem decS (a b : List Nat) : decide (SX.S a = SX.S b) = decide (a = b) := by
  by_cases h : a = b
  · rw [decide_eq_true h, decide_eq_true (by rw [h])]
  · rw [decide_eq_false h, decide_eq_false (fun z => h (SX.S_inj z))]
theorem eqv_dat : ∀ s t : Fm, PyData.eqv s.dat t.dat = decide (s = t)
  | .fls, .fls => by simp only [Fm.dat, eqv1, eqvStr]
  | .fls, .atom _ => by simp only [Fm.dat, eqv12]; rfl
  | .fls, .hole _ => by simp only [Fm.dat, eqv12]; rfl
  | .fls, .bin _ _ _ => by simp only [Fm.dat, eqv13]; rfl
  | .atom _, .fls => by simp only [Fm.dat, eqv21]; rfl
  | .hole _, .fls => by simp only [Fm.dat, eqv21]; rfl
  | .bin _ _ _, .fls => by simp only [Fm.dat, eqv31]; rfl
  | .atom u, .atom v => by
    simp only [Fm.dat, eqv2, eqvStr, decS, Fm.atom.injEq, decide_true, Bool.true_and]
  | .hole u, .hole v => by
    simp only [Fm.dat, eqv2, eqvStr, decS, Fm.hole.injEq, decide_true, Bool.true_and]
  | .atom u, .hole v => by
    have e : decide (("atom" : Str) = "hole") = false := by decide +kernel
    simp only [Fm.dat, eqv2, eqvStr, e, Bool.false_and]
    rfl
  | .hole u, .atom v => by
    have e : decide (("hole" : Str) = "atom") = false := by decide +kernel
    simp only [Fm.dat, eqv2, eqvStr, e, Bool.false_and]
    rfl
  | .atom _, .bin _ _ _ => by simp only [Fm.dat, eqv23]; rfl
  | .hole _, .bin _ _ _ => by simp only [Fm.dat, eqv23]; rfl
  | .bin _ _ _, .atom _ => by simp only [Fm.dat, eqv32]; rfl
  | .bin _ _ _, .hole _ => by simp only [Fm.dat, eqv32]; rfl
  | .bin k a b, .bin j c d => by
    simp only [Fm.dat, eqv3, eqvStr, eqv_dat a c, eqv_dat b d, Fm.bin.injEq, Bool.decide_and]
    have e : decide (kd k = kd j) = decide (k = j) := by
      by_cases h : k = j
      · rw [decide_eq_true h, decide_eq_true (by rw [h])]
      · rw [decide_eq_false h, decide_eq_false (fun z => h (kd_inj z))]
    rw [e]
/-! ### the form of the data -/
theorem low_lay {w : List Nat} (h : Low w) : ((SX.S w).cps.all (· < 0x110000)) = true := by
  rw [← Array.all_toList, List.all_eq_true]
  intro c hc
  exact decide_eq_true (by have z := h c hc; omega)
theorem kd_lay (k : Fin 3) : ((kd k).cps.all (· < 0x110000)) = true := by
  revert k
  decide +kernel
theorem ok_lay {ws hs : List (List Nat)} (hw : ∀ w ∈ ws, Low w) (hh : ∀ c ∈ hs, Low c) : ∀ {n : Nat} {t : Fm}, okF ws hs n t → PyData.canLay0 t.dat = true ∧ PyData.depth t.dat ≤ n
  | 0, _, h => h.elim
  | n + 1, .fls, _ => ⟨by decide +kernel, by show max 0 0 + 1 ≤ n + 1; omega⟩
  | n + 1, .atom w, h => by
    refine ⟨?_, by show max 0 (max 0 0) + 1 ≤ n + 1; omega⟩
    show (PyData.canLay0 (.str "atom") && (PyData.canLay0 (.str (SX.S w)) && true)) = true
    rw [show PyData.canLay0 (.str (SX.S w)) = true from low_lay (hw w h)]
    decide +kernel
  | n + 1, .hole w, h => by
    refine ⟨?_, by show max 0 (max 0 0) + 1 ≤ n + 1; omega⟩
    show (PyData.canLay0 (.str "hole") && (PyData.canLay0 (.str (SX.S w)) && true)) = true
    rw [show PyData.canLay0 (.str (SX.S w)) = true from low_lay (hh w h)]
    decide +kernel
  | n + 1, .bin k a b, h => by
    obtain ⟨a1, a2⟩ := ok_lay hw hh h.1
    obtain ⟨b1, b2⟩ := ok_lay hw hh h.2
    refine ⟨?_, ?_⟩
    · show (PyData.canLay0 (.str (kd k)) && (PyData.canLay0 a.dat && (PyData.canLay0 b.dat && true))) = true
      rw [a1, b1, show PyData.canLay0 (.str (kd k)) = true from kd_lay k]
      rfl
    · show max 0 (max (PyData.depth a.dat) (max (PyData.depth b.dat) 0)) + 1 ≤ n + 1
      omega
theorem ok_shaped {ws hs : List (List Nat)} (hw : ∀ w ∈ ws, Low w) (hh : ∀ c ∈ hs, Low c) {n : Nat} {t : Fm} (h : okF ws hs n t) (hn : n ≤ 64) : SeqAt.shaped t.dat = true := by
  obtain ⟨h1, h2⟩ := ok_lay hw hh h
  unfold SeqAt.shaped
  rw [h1, decide_eq_true (by omega)]
  rfl
theorem oka_str {n : Nat} {x : Str} : oka (n + 1) (.str x) = true := rfl
theorem ok_oka {ws hs : List (List Nat)} : ∀ {n : Nat} {t : Fm}, okF ws hs n t → oka (n + 1) t.dat = true
  | 0, _, h => h.elim
  | n + 1, .fls, _ => rfl
  | n + 1, .atom w, _ => rfl
  | n + 1, .hole w, _ => rfl
  | n + 1, .bin k a b, h => by
    have a1 := ok_oka h.1
    have b1 := ok_oka h.2
    show (decide (3 ≤ 1000) && (oka (n + 1) (.str (kd k)) && (oka (n + 1) a.dat && (oka (n + 1) b.dat && true)))) = true
    rw [a1, b1]
    rfl
end Ag

namespace Ag
open PySem PySem.Spec PyProof.Rows L2
/-! ### tables of holes -/
abbrev Tab := List (List Nat × Fm)
def tg : Tab → List Nat → Option Fm
  | [], _ => none
  | e :: r, c => if e.1 = c then some e.2 else tg r c
theorem tg_snoc (m : Tab) (c d : List Nat) (t : Fm) : tg (m ++ [(c, t)]) d = match tg m d with | some g => some g | none => if c = d then some t else none := by
  induction m with
  | nil => rfl
  | cons e r ih =>
    show (if e.1 = d then some e.2 else tg (r ++ [(c, t)]) d) = _
    rw [ih]
    show _ = match (if e.1 = d then some e.2 else tg r d) with | some g => some g | none => if c = d then some t else none
    by_cases h : e.1 = d
    · rw [if_pos h, if_pos h]
    · rw [if_neg h, if_neg h]
theorem tg_mem {m : Tab} {c : List Nat} {t : Fm} (h : tg m c = some t) : (c, t) ∈ m := by
  induction m with
  | nil => cases h
  | cons e r ih =>
    have h' : (if e.1 = c then some e.2 else tg r c) = some t := h
    by_cases he : e.1 = c
    · rw [if_pos he] at h'
      cases h'
      subst he
      exact List.mem_cons_self
    · rw [if_neg he] at h'
      exact List.mem_cons_of_mem _ (ih h')
theorem tg_none {m : Tab} {c : List Nat} (h : tg m c = none) : ∀ t, (c, t) ∉ m := by
  induction m with
  | nil => intro t z; cases z
  | cons e r ih =>
    have h' : (if e.1 = c then some e.2 else tg r c) = none := h
    by_cases he : e.1 = c
    · rw [if_pos he] at h'
      cases h'
    · rw [if_neg he] at h'
      intro t z
      rcases List.mem_cons.mp z with z | z
      · exact he (by rw [← z])
      · exact ih h' t z
/-- no key twice -/
def Fn (m : Tab) : Prop := (m.map (·.1)).Nodup
theorem Fn.one {m : Tab} (h : Fn m) {c : List Nat} {s t : Fm} (h1 : (c, s) ∈ m) (h2 : (c, t) ∈ m) : s = t := by
  induction m with
  | nil => cases h1
  | cons e r ih =>
    unfold Fn at h
    rw [List.map_cons, List.nodup_cons] at h
    rcases List.mem_cons.mp h1 with a | a <;> rcases List.mem_cons.mp h2 with b | b
    · rw [← b] at a
      exact (Prod.mk.inj a).2
    · exact absurd (List.mem_map.mpr ⟨_, b, rfl⟩) (by rw [← a] at h; exact h.1)
    · exact absurd (List.mem_map.mpr ⟨_, a, rfl⟩) (by rw [← b] at h; exact h.1)
    · exact ih h.2 a b
theorem Fn.tg {m : Tab} (h : Fn m) {c : List Nat} {t : Fm} (h1 : (c, t) ∈ m) : tg m c = some t := by
  cases e : Ag.tg m c with
  | none => exact absurd h1 (tg_none e t)
  | some s => rw [h.one (tg_mem e) h1]
theorem Fn.snoc {m : Tab} (h : Fn m) {c : List Nat} {t : Fm} (h1 : Ag.tg m c = none) : Fn (m ++ [(c, t)]) := by
  unfold Fn
  rw [List.map_append]
  refine nd_snoc h fun z => ?_
  obtain ⟨e, he, rfl⟩ := List.mem_map.mp z
  exact tg_none h1 e.2 he
theorem Fn.nodup {m : Tab} (h : Fn m) : m.Nodup := by
  induction m with
  | nil => exact List.nodup_nil
  | cons e r ih =>
    unfold Fn at h
    rw [List.map_cons, List.nodup_cons] at h
    exact List.nodup_cons.mpr ⟨fun z => h.1 (List.mem_map.mpr ⟨_, z, rfl⟩), ih h.2⟩
theorem Fn.perm {m n : Tab} (h : Fn m) (g : Fn n) (e : ∀ p, p ∈ m ↔ p ∈ n) : m.Perm n := by
  have nm : m.Nodup := h.nodup
  have nn : n.Nodup := g.nodup
  exact (List.perm_ext_iff_of_nodup nm nn).mpr e
/-! ### what a shape asks of its holes -/
def Cn : Fm → Fm → Tab
  | .hole c, f => [(c, f)]
  | .bin _ a b, .bin _ c d => Cn a c ++ Cn b d
  | _, _ => []
def Sm : Fm → Fm → Prop
  | .hole _, _ => True
  | .bin k a b, .bin j c d => k = j ∧ Sm a c ∧ Sm b d
  | .bin _ _ _, _ => False
  | s, f => s = f
/-- the law's own walk -/
def mt : Fm → Fm → Tab → Option Tab
  | .hole c, f, m => match tg m c with
    | some g => if g = f then some m else none
    | none => some (m ++ [(c, f)])
  | .bin k a b, .bin j c d, m => if k = j then match mt a c m with
      | none => none
      | some m' => mt b d m'
    else none
  | .bin _ _ _, _, _ => none
  | .fls, f, m => if Fm.fls = f then some m else none
  | .atom w, f, m => if Fm.atom w = f then some m else none
theorem mt_some : ∀ {s f : Fm} {m m' : Tab}, mt s f m = some m' → Fn m → Fn m' ∧ Sm s f ∧ ∀ p, p ∈ m' ↔ p ∈ m ∨ p ∈ Cn s f
  | .hole c, f, m, m', h, n => by
    simp only [mt] at h
    cases e : tg m c with
    | some g =>
      rw [e] at h
      try dsimp only at h
      by_cases hg : g = f
      · rw [if_pos hg] at h
        cases h
        subst hg
        refine ⟨n, trivial, fun p => ⟨.inl, fun z => ?_⟩⟩
        rcases z with z | z
        · exact z
        · rw [show p = (c, g) from List.mem_singleton.mp z]
          exact tg_mem e
      · rw [if_neg hg] at h
        cases h
    | none =>
      rw [e] at h
      try dsimp only at h
      cases h
      exact ⟨n.snoc e, trivial, fun p => List.mem_append⟩
  | .bin k a b, .bin j c d, m, m', h, n => by
    simp only [mt] at h
    by_cases hk : k = j
    · rw [if_pos hk] at h
      cases e : mt a c m with
      | none => rw [e] at h; cases h
      | some m1 =>
        rw [e] at h
        try dsimp only at h
        obtain ⟨n1, s1, h1⟩ := mt_some e n
        obtain ⟨n2, s2, h2⟩ := mt_some h n1
        refine ⟨n2, ⟨hk, s1, s2⟩, fun p => ?_⟩
        rw [h2, h1]
        show _ ↔ p ∈ m ∨ p ∈ Cn a c ++ Cn b d
        rw [List.mem_append, or_assoc]
    · rw [if_neg hk] at h
      cases h
  | .bin _ _ _, .fls, m, m', h, n => by cases h
  | .bin _ _ _, .atom _, m, m', h, n => by cases h
  | .bin _ _ _, .hole _, m, m', h, n => by cases h
  | .fls, f, m, m', h, n => by
    simp only [mt] at h
    by_cases e : Fm.fls = f
    · rw [if_pos e] at h
      cases h
      subst e
      exact ⟨n, rfl, fun p => ⟨.inl, fun z => z.elim id fun y => (by cases y)⟩⟩
    · rw [if_neg e] at h
      cases h
  | .atom w, f, m, m', h, n => by
    simp only [mt] at h
    by_cases e : Fm.atom w = f
    · rw [if_pos e] at h
      cases h
      subst e
      exact ⟨n, rfl, fun p => ⟨.inl, fun z => z.elim id fun y => (by cases y)⟩⟩
    · rw [if_neg e] at h
      cases h
theorem mt_none : ∀ {s f : Fm} {m : Tab}, mt s f m = none → Fn m → ∀ M : Tab, Fn M → (∀ p ∈ m, p ∈ M) → (∀ p ∈ Cn s f, p ∈ M) → Sm s f → False
  | .hole c, f, m, h, n, M, nM, hm, hc, _ => by
    simp only [mt] at h
    cases e : tg m c with
    | some g =>
      rw [e] at h
      try dsimp only at h
      by_cases hg : g = f
      · rw [if_pos hg] at h
        cases h
      · exact hg (nM.one (hm _ (tg_mem e)) (hc _ (List.mem_singleton.mpr rfl)))
    | none =>
      rw [e] at h
      try dsimp only at h
      cases h
  | .bin k a b, .bin j c d, m, h, n, M, nM, hm, hc, hs => by
    simp only [mt] at h
    rw [if_pos hs.1] at h
    cases e : mt a c m with
    | none => exact mt_none e n M nM hm (fun p hp => hc p (List.mem_append.mpr (.inl hp))) hs.2.1
    | some m1 =>
      rw [e] at h
      try dsimp only at h
      obtain ⟨n1, _, h1⟩ := mt_some e n
      refine mt_none h n1 M nM (fun p hp => ?_) (fun p hp => hc p (List.mem_append.mpr (.inr hp))) hs.2.2
      rcases (h1 p).mp hp with z | z
      · exact hm p z
      · exact hc p (List.mem_append.mpr (.inl z))
  | .bin _ _ _, .fls, m, _, _, M, _, _, _, hs => hs.elim
  | .bin _ _ _, .atom _, m, _, _, M, _, _, _, hs => hs.elim
  | .bin _ _ _, .hole _, m, _, _, M, _, _, _, hs => hs.elim
  | .fls, f, m, h, _, M, _, _, _, hs => by
    simp only [mt] at h
    rw [if_pos (show Fm.fls = f from hs)] at h
    cases h
  | .atom w, f, m, h, _, M, _, _, _, hs => by
    simp only [mt] at h
    rw [if_pos (show Fm.atom w = f from hs)] at h
    cases h
/-! ### the program's walk: a stack, its top first -/
def sz : Fm → Nat
  | .bin _ a b => 1 + sz a + sz b
  | _ => 1
def tot : List (Fm × Fm) → Nat
  | [] => 0
  | e :: r => sz e.1 + tot r
def ho : Nat → List (Fm × Fm) → Tab → Option Tab
  | _, [], m => some m
  | 0, _ :: _, _ => none
  | n + 1, (.hole c, f) :: r, m => match tg m c with
    | some g => if g = f then ho n r m else none
    | none => ho n r (m ++ [(c, f)])
  | n + 1, (.bin k a b, .bin j c d) :: r, m => if k = j then ho n ((b, d) :: (a, c) :: r) m else none
  | _ + 1, (.bin _ _ _, _) :: _, _ => none
  | n + 1, (.fls, f) :: r, m => if Fm.fls = f then ho n r m else none
  | n + 1, (.atom w, f) :: r, m => if Fm.atom w = f then ho n r m else none
def CnS : List (Fm × Fm) → Tab
  | [] => []
  | e :: r => Cn e.1 e.2 ++ CnS r
def SmS (l : List (Fm × Fm)) : Prop := ∀ e ∈ l, Sm e.1 e.2
theorem ho_some : ∀ {n : Nat} {l : List (Fm × Fm)} {m m' : Tab}, ho n l m = some m' → Fn m → Fn m' ∧ SmS l ∧ ∀ p, p ∈ m' ↔ p ∈ m ∨ p ∈ CnS l
  | n, [], m, m', h, nm => by
    have e : m' = m := by cases n <;> exact (Option.some.inj h).symm
    subst e
    exact ⟨nm, fun e h => (by cases h), fun p => ⟨.inl, fun z => z.elim id fun y => (by cases y)⟩⟩
  | 0, _ :: _, m, m', h, nm => by cases h
  | n + 1, (.hole c, f) :: r, m, m', h, nm => by
    simp only [ho] at h
    cases e : tg m c with
    | some g =>
      rw [e] at h
      try dsimp only at h
      by_cases hg : g = f
      · rw [if_pos hg] at h
        subst hg
        obtain ⟨n1, s1, h1⟩ := ho_some h nm
        refine ⟨n1, fun e he => ?_, fun p => ?_⟩
        · rcases List.mem_cons.mp he with rfl | he
          · trivial
          · exact s1 e he
        · rw [h1]
          show _ ↔ p ∈ m ∨ p ∈ [(c, g)] ++ CnS r
          rw [List.mem_append, List.mem_singleton]
          constructor
          · rintro (z | z)
            · exact .inl z
            · exact .inr (.inr z)
          · rintro (z | rfl | z)
            · exact .inl z
            · exact .inl (tg_mem e)
            · exact .inr z
      · rw [if_neg hg] at h
        cases h
    | none =>
      rw [e] at h
      try dsimp only at h
      obtain ⟨n1, s1, h1⟩ := ho_some h (nm.snoc e)
      refine ⟨n1, fun e he => ?_, fun p => ?_⟩
      · rcases List.mem_cons.mp he with rfl | he
        · trivial
        · exact s1 e he
      · rw [h1, List.mem_append]
        show _ ↔ p ∈ m ∨ p ∈ [(c, f)] ++ CnS r
        rw [List.mem_append, or_assoc]
  | n + 1, (.bin k a b, .bin j c d) :: r, m, m', h, nm => by
    simp only [ho] at h
    by_cases hk : k = j
    · rw [if_pos hk] at h
      obtain ⟨n1, s1, h1⟩ := ho_some h nm
      refine ⟨n1, fun e he => ?_, fun p => ?_⟩
      · rcases List.mem_cons.mp he with rfl | he
        · exact ⟨hk, s1 (a, c) (by simp), s1 (b, d) (by simp)⟩
        · exact s1 e (by simp [he])
      · rw [h1]
        show p ∈ m ∨ p ∈ Cn b d ++ (Cn a c ++ CnS r) ↔ p ∈ m ∨ p ∈ (Cn a c ++ Cn b d) ++ CnS r
        simp only [List.mem_append]
        constructor
        · rintro (z | z | z | z)
          · exact .inl z
          · exact .inr (.inl (.inr z))
          · exact .inr (.inl (.inl z))
          · exact .inr (.inr z)
        · rintro (z | (z | z) | z)
          · exact .inl z
          · exact .inr (.inr (.inl z))
          · exact .inr (.inl z)
          · exact .inr (.inr (.inr z))
    · rw [if_neg hk] at h
      cases h
  | _ + 1, (.bin _ _ _, .fls) :: _, m, m', h, nm => by cases h
  | _ + 1, (.bin _ _ _, .atom _) :: _, m, m', h, nm => by cases h
  | _ + 1, (.bin _ _ _, .hole _) :: _, m, m', h, nm => by cases h
  | n + 1, (.fls, f) :: r, m, m', h, nm => by
    simp only [ho] at h
    by_cases e : Fm.fls = f
    · rw [if_pos e] at h
      subst e
      obtain ⟨n1, s1, h1⟩ := ho_some h nm
      refine ⟨n1, fun e he => ?_, h1⟩
      rcases List.mem_cons.mp he with rfl | he
      · rfl
      · exact s1 e he
    · rw [if_neg e] at h
      cases h
  | n + 1, (.atom w, f) :: r, m, m', h, nm => by
    simp only [ho] at h
    by_cases e : Fm.atom w = f
    · rw [if_pos e] at h
      subst e
      obtain ⟨n1, s1, h1⟩ := ho_some h nm
      refine ⟨n1, fun e he => ?_, h1⟩
      rcases List.mem_cons.mp he with rfl | he
      · rfl
      · exact s1 e he
    · rw [if_neg e] at h
      cases h
theorem ho_none : ∀ {n : Nat} {l : List (Fm × Fm)} {m : Tab}, ho n l m = none → tot l ≤ n → Fn m → ∀ M : Tab, Fn M → (∀ p ∈ m, p ∈ M) → (∀ p ∈ CnS l, p ∈ M) → SmS l → False
  | n, [], m, h, _, _, _, _, _, _, _ => by cases n <;> cases h
  | 0, e :: r, m, _, ht, _, _, _, _, _, _ => by
    have : 1 ≤ sz e.1 := by cases e.1 <;> simp only [sz] <;> omega
    simp only [tot] at ht
    omega
  | n + 1, (.hole c, f) :: r, m, h, ht, nm, M, nM, hm, hc, hs => by
    have ht' : tot r ≤ n := by simp only [tot, sz] at ht; omega
    have hs' : SmS r := fun e he => hs e (List.mem_cons_of_mem _ he)
    simp only [ho] at h
    cases e : tg m c with
    | some g =>
      rw [e] at h
      try dsimp only at h
      by_cases hg : g = f
      · rw [if_pos hg] at h
        exact ho_none h ht' nm M nM hm (fun p hp => hc p (List.mem_append.mpr (.inr hp))) hs'
      · exact hg (nM.one (hm _ (tg_mem e)) (hc _ (List.mem_append.mpr (.inl (List.mem_singleton.mpr rfl)))))
    | none =>
      rw [e] at h
      try dsimp only at h
      refine ho_none h ht' (nm.snoc e) M nM (fun p hp => ?_) (fun p hp => hc p (List.mem_append.mpr (.inr hp))) hs'
      rcases List.mem_append.mp hp with z | z
      · exact hm p z
      · exact hc p (List.mem_append.mpr (.inl z))
  | n + 1, (.bin k a b, .bin j c d) :: r, m, h, ht, nm, M, nM, hm, hc, hs => by
    have h0 := hs (.bin k a b, .bin j c d) (by simp)
    simp only [ho] at h
    rw [if_pos h0.1] at h
    refine ho_none h ?_ nm M nM hm (fun p hp => ?_) fun e he => ?_
    · simp only [tot, sz] at ht ⊢
      omega
    · have hp' : p ∈ Cn b d ++ (Cn a c ++ CnS r) := hp
      refine hc p (show p ∈ (Cn a c ++ Cn b d) ++ CnS r from ?_)
      simp only [List.mem_append] at hp' ⊢
      rcases hp' with z | z | z
      · exact .inl (.inr z)
      · exact .inl (.inl z)
      · exact .inr z
    · rcases List.mem_cons.mp he with rfl | he
      · exact h0.2.2
      rcases List.mem_cons.mp he with rfl | he
      · exact h0.2.1
      · exact hs e (List.mem_cons_of_mem _ he)
  | _ + 1, (.bin k a b, .fls) :: _, m, _, _, _, _, _, _, _, hs => (hs _ List.mem_cons_self).elim
  | _ + 1, (.bin k a b, .atom w) :: _, m, _, _, _, _, _, _, _, hs => (hs _ List.mem_cons_self).elim
  | _ + 1, (.bin k a b, .hole w) :: _, m, _, _, _, _, _, _, _, hs => (hs _ List.mem_cons_self).elim
  | n + 1, (.fls, f) :: r, m, h, ht, nm, M, nM, hm, hc, hs => by
    have ht' : tot r ≤ n := by simp only [tot, sz] at ht; omega
    simp only [ho] at h
    rw [if_pos (show Fm.fls = f from hs _ List.mem_cons_self)] at h
    exact ho_none h ht' nm M nM hm (fun p hp => hc p (List.mem_append.mpr (.inr hp))) fun e he => hs e (List.mem_cons_of_mem _ he)
  | n + 1, (.atom w, f) :: r, m, h, ht, nm, M, nM, hm, hc, hs => by
    have ht' : tot r ≤ n := by simp only [tot, sz] at ht; omega
    simp only [ho] at h
    rw [if_pos (show Fm.atom w = f from hs _ List.mem_cons_self)] at h
    exact ho_none h ht' nm M nM hm (fun p hp => hc p (List.mem_append.mpr (.inr hp))) fun e he => hs e (List.mem_cons_of_mem _ he)
/-- what holes_of answers -/
def hof (s f : Fm) : Option Tab := ho (sz s) [(s, f)] []
theorem hof_some {s f : Fm} {m : Tab} (h : hof s f = some m) : Fn m ∧ Sm s f ∧ ∀ p, p ∈ m ↔ p ∈ Cn s f := by
  obtain ⟨h1, h2, h3⟩ := ho_some h (show Fn [] from List.nodup_nil)
  refine ⟨h1, h2 (s, f) (by simp), fun p => ?_⟩
  rw [h3]
  show p ∈ [] ∨ p ∈ Cn s f ++ [] ↔ _
  simp
theorem hof_none {s f : Fm} (h : hof s f = none) {M : Tab} (nM : Fn M) (hc : ∀ p ∈ Cn s f, p ∈ M) (hs : Sm s f) : False := by
  refine ho_none h (by simp [tot]) (show Fn [] from List.nodup_nil) M nM (fun p hp => (by cases hp)) (fun p hp => ?_) (fun e he => ?_)
  · have hp' : p ∈ Cn s f ++ [] := hp
    rw [List.append_nil] at hp'
    exact hc p hp'
  · rw [List.mem_singleton.mp he]
    exact hs
/-- the two walks agree -/
theorem walks {s f : Fm} : (hof s f = none ∧ mt s f [] = none) ∨ ∃ m1 m2, hof s f = some m1 ∧ mt s f [] = some m2 ∧ m1.Perm m2 ∧ Fn m1 ∧ Fn m2 ∧ Sm s f ∧ ∀ p, p ∈ m2 ↔ p ∈ Cn s f := by
  have n0 : Fn [] := List.nodup_nil
  cases e1 : hof s f with
  | none =>
    cases e2 : mt s f [] with
    | none => exact .inl ⟨rfl, rfl⟩
    | some m2 =>
      obtain ⟨h1, h2, h3⟩ := mt_some e2 n0
      exact (hof_none e1 h1 (fun p hp => (h3 p).mpr (.inr hp)) h2).elim
  | some m1 =>
    obtain ⟨g1, g2, g3⟩ := hof_some e1
    cases e2 : mt s f [] with
    | none => exact (mt_none e2 n0 m1 g1 (fun p hp => (by cases hp)) (fun p hp => (g3 p).mpr hp) g2).elim
    | some m2 =>
      obtain ⟨h1, h2, h3⟩ := mt_some e2 n0
      have h3' : ∀ p, p ∈ m2 ↔ p ∈ Cn s f := fun p => by rw [h3]; simp
      exact .inr ⟨m1, m2, rfl, rfl, g1.perm h1 fun p => by rw [g3, h3'], g1, h1, h2, h3'⟩
/-! ### the holes filled -/
def pt (m : Tab) : Fm → Fm
  | .hole c => (tg m c).getD (.hole c)
  | .bin k a b => .bin k (pt m a) (pt m b)
  | t => t
theorem pt_back {M : Tab} (nM : Fn M) : ∀ {s f : Fm}, (∀ p ∈ Cn s f, p ∈ M) → Sm s f → pt M s = f
  | .hole c, f, h, _ => by
    show (tg M c).getD _ = f
    rw [nM.tg (h _ (List.mem_singleton.mpr rfl))]
    rfl
  | .bin k a b, .bin j c d, h, hs => by
    show Fm.bin k (pt M a) (pt M b) = _
    rw [pt_back nM (fun p hp => h p (List.mem_append.mpr (.inl hp))) hs.2.1, pt_back nM (fun p hp => h p (List.mem_append.mpr (.inr hp))) hs.2.2, hs.1]
  | .bin _ _ _, .fls, _, hs => hs.elim
  | .bin _ _ _, .atom _, _, hs => hs.elim
  | .bin _ _ _, .hole _, _, hs => hs.elim
  | .fls, f, _, hs => hs
  | .atom w, f, _, hs => hs
theorem pt_ok {ws hs : List (List Nat)} {M : Tab} {k : Nat} (hM : ∀ c ∈ hs, ∃ t, tg M c = some t ∧ okF ws [] k t) : ∀ {n : Nat} {s : Fm}, okF ws hs n s → okF ws [] (n + k) (pt M s)
  | 0, _, h => h.elim
  | n + 1, .fls, _ => by rw [Nat.add_right_comm]; exact trivial
  | n + 1, .atom w, h => by rw [Nat.add_right_comm]; exact h
  | n + 1, .hole c, h => by
    obtain ⟨t, h1, h2⟩ := hM c h
    show okF ws [] _ ((tg M c).getD _)
    rw [h1]
    exact h2.le (by omega)
  | n + 1, .bin j a b, h => by
    rw [Nat.add_right_comm]
    exact ⟨pt_ok hM h.1, pt_ok hM h.2⟩
theorem cn_plain {ws : List (List Nat)} : ∀ {n : Nat} {t : Fm}, okF ws [] n t → Cn t t = [] ∧ Sm t t
  | 0, _, h => h.elim
  | _ + 1, .fls, _ => ⟨rfl, rfl⟩
  | _ + 1, .atom _, _ => ⟨rfl, rfl⟩
  | _ + 1, .hole _, h => by cases h
  | _ + 1, .bin _ _ _, h => by
    obtain ⟨a1, a2⟩ := cn_plain h.1
    obtain ⟨b1, b2⟩ := cn_plain h.2
    exact ⟨by show Cn _ _ ++ Cn _ _ = []; rw [a1, b1]; rfl, rfl, a2, b2⟩
theorem hof_plain {ws : List (List Nat)} {n : Nat} {t : Fm} (h : okF ws [] n t) : hof t t = some [] := by
  obtain ⟨h1, h2⟩ := cn_plain h
  cases e : hof t t with
  | none => exact (hof_none e (M := []) List.nodup_nil (fun p hp => by rw [h1] at hp; exact hp) h2).elim
  | some m =>
    obtain ⟨_, _, g3⟩ := hof_some e
    cases m with
    | nil => rfl
    | cons p r =>
      have z := (g3 p).mp (by simp)
      rw [h1] at z
      cases z
theorem cn_ok {ws hs : List (List Nat)} : ∀ {n k : Nat} {s f : Fm}, okF ws hs n s → okF ws [] k f → ∀ p ∈ Cn s f, p.1 ∈ hs ∧ okF ws [] k p.2
  | 0, _, _, _, h, _, _, _ => h.elim
  | n + 1, k, .hole c, f, h, g, p, hp => by
    rw [List.mem_singleton.mp hp]
    exact ⟨h, g⟩
  | n + 1, 0, .bin _ _ _, _, _, g, _, _ => g.elim
  | n + 1, k + 1, .bin j a b, .bin i c d, h, g, p, hp => by
    rcases List.mem_append.mp (show p ∈ Cn a c ++ Cn b d from hp) with z | z
    · have y := cn_ok h.1 g.1 p z
      exact ⟨y.1, y.2.up⟩
    · have y := cn_ok h.2 g.2 p z
      exact ⟨y.1, y.2.up⟩
  | n + 1, k + 1, .bin _ _ _, .fls, _, _, p, hp => by cases hp
  | n + 1, k + 1, .bin _ _ _, .atom _, _, _, p, hp => by cases hp
  | n + 1, k + 1, .bin _ _ _, .hole _, _, _, p, hp => by cases hp
  | n + 1, k, .fls, f, _, _, p, hp => by cases f <;> cases hp
  | n + 1, k, .atom _, f, _, _, p, hp => by cases f <;> cases hp
theorem nodup_le {α : Type} [DecidableEq α] : ∀ {l k : List α}, l.Nodup → (∀ x ∈ l, x ∈ k) → l.length ≤ k.length
  | [], _, _, _ => Nat.zero_le _
  | x :: r, k, h, hs => by
    have h' := List.nodup_cons.mp h
    have hx : x ∈ k := hs x (by simp)
    have z := nodup_le (k := k.erase x) h'.2 fun y hy => (List.mem_erase_of_ne (fun e => h'.1 (by rw [← e]; exact hy))).mpr (hs y (by simp [hy]))
    rw [List.length_erase_of_mem hx] at z
    have : 0 < k.length := List.length_pos_of_mem hx
    simp only [List.length_cons]
    omega
/-! ### tables in the heap -/
def TR (K : PySem.W.Frag) (H : Hp) (kv : Key × V) (e : List Nat × Fm) : Prop := kv.1 = Sum.inr (SX.S e.1) ∧ Fr K H kv.2 e.2
def TabAt (K : PySem.W.Frag) (H : Hp) (T : Addr) (m : Tab) : Prop := ∃ kvs, H T = some (.dK kvs) ∧ Paired (TR K H) kvs m
def TOk (ws hs : List (List Nat)) (N : Nat) (m : Tab) : Prop := Fn m ∧ ∀ p ∈ m, p.1 ∈ hs ∧ okF ws [] N p.2
theorem key_S (a b : List Nat) : (Sum.inr (SX.S a) : Key) = Sum.inr (SX.S b) ↔ a = b := ⟨fun h => SX.S_inj (Sum.inr.inj h), fun h => by rw [h]⟩
theorem tab_some {K : PySem.W.Frag} {H : Hp} : ∀ {kvs : List (Key × V)} {m : Tab}, Paired (TR K H) kvs m → ∀ {c : List Nat} {t : Fm}, tg m c = some t → ∃ v, valV kvs (Sum.inr (SX.S c)) = some v ∧ Fr K H v t
  | _, _, .nil, c, t, h => by cases h
  | _, _, .cons (a := kv) (b := e) r rs, c, t, h => by
    have h' : (if e.1 = c then some e.2 else tg _ c) = some t := h
    by_cases he : e.1 = c
    · rw [if_pos he] at h'
      cases h'
      exact ⟨kv.2, valV_pos (by rw [r.1, he]), r.2⟩
    · rw [if_neg he] at h'
      obtain ⟨v, h1, h2⟩ := tab_some rs h'
      exact ⟨v, by rw [valV_neg (fun z => he ((key_S _ _).mp (r.1.symm.trans z)))]; exact h1, h2⟩
theorem tab_none {K : PySem.W.Frag} {H : Hp} : ∀ {kvs : List (Key × V)} {m : Tab}, Paired (TR K H) kvs m → ∀ {c : List Nat}, tg m c = none → valV kvs (Sum.inr (SX.S c)) = none
  | _, _, .nil, c, _ => rfl
  | _, _, .cons (a := kv) (b := e) r rs, c, h => by
    have h' : (if e.1 = c then some e.2 else tg _ c) = none := h
    by_cases he : e.1 = c
    · rw [if_pos he] at h'
      cases h'
    · rw [if_neg he] at h'
      rw [valV_neg (fun z => he ((key_S _ _).mp (r.1.symm.trans z)))]
      exact tab_none rs h'
theorem tab_same {K : PySem.W.Frag} {H H' : Hp} (s : Same H H') {kvs : List (Key × V)} {m : Tab} (h : Paired (TR K H) kvs m) : Paired (TR K H') kvs m := paired_imp (fun _ _ z => ⟨z.1, z.2.same s⟩) h
theorem TabAt.same {K : PySem.W.Frag} {H H' : Hp} (s : Same H H') {T : Addr} {m : Tab} (h : TabAt K H T m) : TabAt K H' T m := by
  obtain ⟨kvs, h1, h2⟩ := h
  exact ⟨kvs, s _ _ h1, tab_same s h2⟩
theorem paired_snoc {α β : Type} {R : α → β → Prop} : ∀ {l : List α} {m : List β} {a : α} {b : β}, Paired R l m → R a b → Paired R (l ++ [a]) (m ++ [b])
  | _, _, _, _, .nil, h => .cons h .nil
  | _, _, _, _, .cons r t, h => .cons r (paired_snoc t h)
theorem mt_tok {ws hs : List (List Nat)} {n N : Nat} {s f : Fm} {m m' : Tab} (h : mt s f m = some m') (ok : TOk ws hs N m) (hs1 : okF ws hs n s) (hf : okF ws [] N f) : TOk ws hs N m' := by
  obtain ⟨h1, h2, h3⟩ := mt_some h ok.1
  refine ⟨h1, fun p hp => ?_⟩
  rcases (h3 p).mp hp with z | z
  · exact ok.2 p z
  · exact cn_ok hs1 hf p z
/-- the first word of a formula, and the tuple that it is -/
def hd0 : Fm → Str
  | .fls => "false"
  | .atom _ => "atom"
  | .hole _ => "hole"
  | .bin k _ _ => kd k
theorem fr_head {K : PySem.W.Frag} {H : Hp} {v : V} {t : Fm} (h : Fr K H v t) : ∃ p r, v = .ref p ∧ SqT K H p (.str (hd0 t) :: r) := by
  cases t with
  | fls => obtain ⟨p, e, q⟩ := fr_fls h; exact ⟨p, _, e, q⟩
  | atom u => obtain ⟨p, e, q⟩ := fr_atom h; exact ⟨p, _, e, q⟩
  | hole u => obtain ⟨p, e, q⟩ := fr_hole h; exact ⟨p, _, e, q⟩
  | bin k a b => obtain ⟨p, x, y, e, q, _⟩ := fr_bin h; exact ⟨p, _, e, q⟩
theorem in_kd (k : Fin 3) : (!inV (.str (kd k)) [.str "then", .str "and", .str "or"]) = false := by
  revert k
  decide +kernel
theorem at_head {x : V} {r : List V} : atI (x :: r) 0 = some x := at_any (j := 0) rfl rfl
theorem kd_in (k : Fin 3) : inV (.str (kd k)) [.str "then", .str "and", .str "or"] = true := by
  revert k
  decide +kernel
/-! ### the stack of holes_of: its list, the top last -/
def PairAt (K : PySem.W.Frag) (H : Hp) (v : V) (e : Fm × Fm) : Prop := ∃ p x y, v = .ref p ∧ SqT K H p [x, y] ∧ Fr K H x e.1 ∧ Fr K H y e.2
theorem PairAt.same {K : PySem.W.Frag} {H H' : Hp} (s : Same H H') {v : V} {e : Fm × Fm} (h : PairAt K H v e) : PairAt K H' v e := by
  obtain ⟨p, x, y, h1, h2, h3, h4⟩ := h
  exact ⟨p, x, y, h1, sameT s h2, h3.same s, h4.same s⟩
inductive Stk (K : PySem.W.Frag) (H : Hp) : List V → List (Fm × Fm) → Prop
  | nil : Stk K H [] []
  | push {vs : List V} {v : V} {r : List (Fm × Fm)} {e : Fm × Fm} : Stk K H vs r → PairAt K H v e → Stk K H (vs ++ [v]) (e :: r)
theorem Stk.len {K : PySem.W.Frag} {H : Hp} {vs : List V} {l : List (Fm × Fm)} (h : Stk K H vs l) : vs.length = l.length := by
  induction h with
  | nil => rfl
  | push _ _ ih => rw [List.length_append, ih]; rfl
theorem tot_len : ∀ l : List (Fm × Fm), l.length ≤ tot l
  | [] => Nat.le_refl _
  | e :: r => by
    have z := tot_len r
    have : 1 ≤ sz e.1 := by cases e.1 <;> simp only [sz] <;> omega
    simp only [tot, List.length_cons]
    omega
structure Setting (ws hs : List (List Nat)) (N : Nat) : Prop where
  lw : ∀ w ∈ ws, Low w
  lh : ∀ c ∈ hs, Low c
  n : N ≤ 60
  len : hs.length ≤ 900
/-! ### tuples stay, whatever list or dict is changed -/
def Tp (H H' : Hp) : Prop := ∀ p xs, Rd H p (.tup xs) → Rd H' p (.tup xs)
theorem Tp.of {H H' : Hp} (s : Same H H') : Tp H H' := fun p xs h => RdLe.of s p _ h
theorem Tp.trans {H H1 H2 : Hp} (a : Tp H H1) (b : Tp H1 H2) : Tp H H2 := fun p xs h => b p xs (a p xs h)
theorem Tp.upd {H : Hp} {a : Addr} {u o : HO} (h : H a = some u) (mu : Mut (some u)) : Tp H (upd H a o) := fun p xs q => by
  have np : p ≠ a := by
    rintro rfl
    rcases q with q | ⟨o', q⟩ <;> (rw [h] at q; cases q; exact mu)
  rcases q with q | ⟨o', q⟩
  · exact .inl (by rw [upd_ne np]; exact q)
  · exact .inr ⟨o', by rw [upd_ne np]; exact q⟩
section
variable {K : PySem.W.Frag} {H H' : Hp}
theorem Tp.seq (s : Tp H H') {a : Addr} {xs : List V} (h : SqT K H a xs) : SqT K H' a xs := h.imp (s _ _) id
theorem Fr.tp (s : Tp H H') : ∀ {t : Fm} {v : V}, Fr K H v t → Fr K H' v t
  | .fls, _, h => by
    obtain ⟨p, rfl, q⟩ := fr_fls h
    exact mk_fls (s.seq q)
  | .atom w, _, h => by
    obtain ⟨p, rfl, q⟩ := fr_atom h
    exact mk_atom (s.seq q)
  | .hole w, _, h => by
    obtain ⟨p, rfl, q⟩ := fr_hole h
    exact mk_hole (s.seq q)
  | .bin j a b, _, h => by
    obtain ⟨p, x, y, rfl, q, ha, hb⟩ := fr_bin h
    exact mk_bin (s.seq q) (Fr.tp s ha) (Fr.tp s hb)
theorem tab_tp (s : Tp H H') {kvs : List (Key × V)} {m : Tab} (h : Paired (TR K H) kvs m) : Paired (TR K H') kvs m := paired_imp (fun _ _ z => ⟨z.1, z.2.tp s⟩) h
theorem PairAt.tp (s : Tp H H') {v : V} {e : Fm × Fm} (h : PairAt K H v e) : PairAt K H' v e := by
  obtain ⟨p, x, y, h1, h2, h3, h4⟩ := h
  exact ⟨p, x, y, h1, s.seq h2, h3.tp s, h4.tp s⟩
theorem Stk.tp (s : Tp H H') {vs : List V} {l : List (Fm × Fm)} (h : Stk K H vs l) : Stk K H' vs l := by
  induction h with
  | nil => exact .nil
  | push _ hp ih => exact .push ih (hp.tp s)
end
theorem last_at (vs : List V) (v : V) : (vs ++ [v])[(vs ++ [v]).length - 1]? = some v := by simp
/-! ### a table as data -/
def ent (e : List Nat × Fm) : PyData × PyData := (.str (SX.S e.1), e.2.dat)
theorem paired_perm {α β : Type} {R : α → β → Prop} {m n : List β} (p : m.Perm n) : ∀ {l : List α}, Paired R l m → ∃ k, l.Perm k ∧ Paired R k n := by
  induction p with
  | nil => intro l h; exact ⟨l, .refl _, h⟩
  | cons x _ ih =>
    intro l h
    cases h with
    | cons r t =>
      obtain ⟨k, h1, h2⟩ := ih t
      exact ⟨_, h1.cons _, .cons r h2⟩
  | swap x y l' =>
    intro l h
    cases h with
    | cons r t =>
      cases t with
      | cons r2 t2 => exact ⟨_, .swap _ _ _, .cons r2 (.cons r t2)⟩
  | trans _ _ ih1 ih2 =>
    intro l h
    obtain ⟨k, h1, h2⟩ := ih1 h
    obtain ⟨k2, h3, h4⟩ := ih2 h2
    exact ⟨k2, h1.trans h3, h4⟩
theorem paired_map {α β γ : Type} {R : α → β → Prop} {S : α → γ → Prop} (g : β → γ) (f : ∀ a b, R a b → S a (g b)) : ∀ {l : List α} {m : List β}, Paired R l m → Paired S l (m.map g)
  | _, _, .nil => .nil
  | _, _, .cons r t => .cons (f _ _ r) (paired_map g f t)
theorem tab_keys {K : PySem.W.Frag} {H : Hp} : ∀ {kvs : List (Key × V)} {m : Tab}, Paired (TR K H) kvs m → kvs.map (·.1) = m.map fun e => Sum.inr (SX.S e.1)
  | _, _, .nil => rfl
  | _, _, .cons r t => by rw [List.map_cons, List.map_cons, tab_keys t, r.1]
theorem fn_keys {m : Tab} (h : Fn m) : (m.map fun e => (Sum.inr (SX.S e.1) : Key)).Nodup := by
  induction m with
  | nil => exact List.nodup_nil
  | cons e r ih =>
    unfold Fn at h
    rw [List.map_cons, List.nodup_cons] at h
    rw [List.map_cons, List.nodup_cons]
    refine ⟨fun z => ?_, ih h.2⟩
    obtain ⟨e', h1, h2⟩ := List.mem_map.mp z
    exact h.1 (List.mem_map.mpr ⟨e', h1, (key_S _ _).mp h2⟩)
theorem da_tab {K : PySem.W.Frag} {H : Hp} {T : Addr} {m1 m2 : Tab} (h : TabAt K H T m1) (p : m1.Perm m2) (n : Fn m1) : Da K H (.ref T) (.dict (m2.map ent)) := by
  obtain ⟨kvs, h1, h2⟩ := h
  obtain ⟨k, h3, h4⟩ := paired_perm p h2
  exact .dic h1 h3 (by rw [tab_keys h2]; exact fn_keys n) (paired_map ent (fun _ _ z => ⟨by rw [z.1]; rfl, z.2⟩) h4)
theorem oka_tab {ws hs : List (List Nat)} {N n : Nat} {m : Tab} (hw : ∀ c ∈ hs, Low c) (h : TOk ws hs N m) (hl : hs.length < 64) (hn : N + 1 ≤ n) (up : ∀ (t : Fm), okF ws [] N t → oka n t.dat = true) : oka (n + 1) (.dict (m.map ent)) = true := by
  simp only [oka, Bool.and_eq_true, decide_eq_true_eq, List.all_eq_true, List.length_map]
  refine ⟨?_, fun e he => ?_⟩
  · have z := nodup_le (k := hs) h.1 fun x hx => by
      obtain ⟨e, he, rfl⟩ := List.mem_map.mp hx
      exact (h.2 e he).1
    rw [List.length_map] at z
    omega
  · obtain ⟨p, hp, rfl⟩ := List.mem_map.mp he
    exact ⟨low_lay (hw _ (h.2 p hp).1), up _ (h.2 p hp).2⟩
theorem okF_oka {ws hs : List (List Nat)} {N n : Nat} {t : Fm} (h : okF ws hs N t) (hn : N ≤ n) : oka (n + 1) t.dat = true := ok_oka (h.le hn)
theorem sz_pow {ws hs : List (List Nat)} : ∀ {n : Nat} {t : Fm}, okF ws hs n t → sz t + 1 ≤ 2 ^ n
  | 0, _, h => h.elim
  | n + 1, .fls, _ => by have : 1 ≤ 2 ^ n := Nat.one_le_two_pow; simp only [sz, Nat.pow_succ]; omega
  | n + 1, .atom _, _ => by have : 1 ≤ 2 ^ n := Nat.one_le_two_pow; simp only [sz, Nat.pow_succ]; omega
  | n + 1, .hole _, _ => by have : 1 ≤ 2 ^ n := Nat.one_le_two_pow; simp only [sz, Nat.pow_succ]; omega
  | n + 1, .bin _ a b, h => by
    have h1 := sz_pow h.1
    have h2 := sz_pow h.2
    simp only [sz, Nat.pow_succ]
    omega
theorem sz_le {ws hs : List (List Nat)} {n : Nat} {t : Fm} (h : okF ws hs n t) (hn : n ≤ 9 := by decide) : sz t ≤ 900 := by
  have z := sz_pow (h.le hn)
  have : 2 ^ 9 = 512 := by decide
  omega
theorem vals_rev {zs : List V} {ws : List Value} (r : Vals zs ws) : Vals zs.reverse ws.reverse := by
  induction r with
  | nil => exact .nil
  | cons h _ ih =>
    rw [List.reverse_cons, List.reverse_cons]
    exact Vals.append ih (.cons h .nil)
end Ag
namespace Ag
open PySem PySem.Spec PyProof.Rows L2
/-! ### what the program holds for a formula, for a shape -/
def Sml : Fm → Prop
  | .fls => True
  | .atom w => w.length ≤ 1000
  | .hole c => c.length ≤ 1000
  | .bin _ a b => Sml a ∧ Sml b
def isB : Nat → Bool → Fm → Bool
  | 0, _, _ => false
  | _ + 1, _, .fls => true
  | _ + 1, _, .atom w => isNm w
  | _ + 1, h, .hole c => h && isLet c
  | d + 1, h, .bin _ a b => isB d h a && isB d h b
theorem isB_ok {ws hs : List (List Nat)} {h : Bool} (hw : ∀ w ∈ ws, isNm w = true) (hh : ∀ c ∈ hs, (h && isLet c) = true) : ∀ {n : Nat} {t : Fm}, okF ws hs n t → isB n h t = true
  | 0, _, z => z.elim
  | _ + 1, .fls, _ => rfl
  | _ + 1, .atom w, z => hw w z
  | _ + 1, .hole c, z => hh c z
  | n + 1, .bin _ a b, z => by
    show (isB n h a && isB n h b) = true
    rw [isB_ok hw hh z.1, isB_ok hw hh z.2]
    rfl
theorem isB_up {h : Bool} : ∀ {n : Nat} {t : Fm}, isB n h t = true → isB (n + 1) h t = true
  | 0, _, z => by cases z
  | _ + 1, .fls, _ => rfl
  | _ + 1, .atom w, z => z
  | _ + 1, .hole c, z => z
  | n + 1, .bin _ a b, z => by
    have z' : (isB n h a && isB n h b) = true := z
    rw [Bool.and_eq_true] at z'
    show (isB (n + 1) h a && isB (n + 1) h b) = true
    rw [isB_up z'.1, isB_up z'.2]
    rfl
theorem isB_le {h : Bool} {n m : Nat} {t : Fm} (z : isB n h t = true) (e : n ≤ m) : isB m h t = true := by
  induction e with
  | refl => exact z
  | step _ ih => exact isB_up ih
theorem sml_ok {ws hs : List (List Nat)} (hw : ∀ w ∈ ws, w.length ≤ 1000) (hh : ∀ c ∈ hs, c.length ≤ 1000) : ∀ {n : Nat} {t : Fm}, okF ws hs n t → Sml t
  | 0, _, z => z.elim
  | _ + 1, .fls, _ => trivial
  | _ + 1, .atom w, z => hw w z
  | _ + 1, .hole c, z => hh c z
  | n + 1, .bin _ a b, z => ⟨sml_ok hw hh z.1, sml_ok hw hh z.2⟩
theorem shaped_bin {k : Fin 3} {a b : Fm} (h : SeqAt.shaped (Fm.bin k a b).dat = true) : SeqAt.shaped a.dat = true ∧ SeqAt.shaped b.dat = true := by
  unfold SeqAt.shaped at h ⊢
  rw [Bool.and_eq_true, decide_eq_true_eq] at h
  have h1 : (PyData.canLay0 (.str (kd k)) && (PyData.canLay0 a.dat && (PyData.canLay0 b.dat && true))) = true := h.1
  have h2 : max 0 (max (PyData.depth a.dat) (max (PyData.depth b.dat) 0)) + 1 ≤ 64 := h.2
  simp only [Bool.and_eq_true, Bool.and_true] at h1
  rw [h1.2.1, h1.2.2, decide_eq_true (by omega), decide_eq_true (by omega)]
  exact ⟨rfl, rfl⟩
end Ag

namespace Ag
open PySem PySem.Spec PyProof.Rows L2
open AutoSeq1 (wpAny_loadPart')
/-! ### enumerate over a tuple -/
theorem meets_enumT (l : Addr) (items : Array Value) (n : Nat) (dct : Option Addr) (sl : Array (Option Value)) :
    Meets (Builtin.«enumerate.__new__» ⟨[.type "enumerate", .ref l], []⟩) (fun _ R s => s.heap.get? l = some { cls := .type "tuple", dict := dct, data := .seq items n, slots := sl } ∧
      R (.ok (.ret (.ref (s.heap.push { cls := .type "tuple_iterator", data := .fields #[.ref l, .int 0 0] }).objs.size)))
        { s with heap := (s.heap.push { cls := .type "tuple_iterator", data := .fields #[.ref l, .int 0 0] }).push { cls := .type "enumerate", data := .fields #[.none, .bool false, .ref s.heap.objs.size, rawInt 0, .none, .none] } }) :=
  .of_wp fun prog w A R s h => by
    obtain ⟨hp, g, d, tk, os⟩ := s; obtain ⟨hl, h⟩ := h
    have hsub := sub_enumerate
    have hL : Heap.IsTuple (Shared.heap ⟨hp, g, d, tk, os⟩) l items := ⟨_, hl, rfl, n, rfl⟩
    wp_walk using wpAny_loadPart' hl
    refine wpAny_stack_any fun st => wpAny_pure ?_
    split
    · rename_i c _ _ _ _ _
      cases (c == Value.type "enumerate")
      · wp_walk using wpAny_loadPart' hl, wpAny_pyIter_tuple hL
        exact ⟨_, rfl, h⟩
      · wp_walk using wpAny_loadPart' hl, wpAny_pyIter_tuple hL
        exact ⟨_, rfl, h⟩
    · wp_walk using wpAny_loadPart' hl, wpAny_pyIter_tuple hL
      exact ⟨_, rfl, h⟩
section
variable {prog : Program} {w : World} {A : Around} {E : Value → Shared → Prop} {s : Shared}
theorem call_enumT {l : Addr} {items : Array Value} {Q : Value → Shared → Prop} (hL : IsTup s.heap l items)
    (h : ∀ h', IsEnum h' (s.heap.objs.size + 1) s.heap.objs.size 0 .none → h'.IsTupleIter s.heap.objs.size l 0 → h'.objs.size = s.heap.objs.size + 2 →
      (∀ b o, s.heap.get? b = some o → h'.get? b = some o) → Q (.ref (s.heap.objs.size + 1)) { s with heap := h' }) :
    wpAny (model prog w) A (call (.type "enumerate") [.ref l]) Q E s := by
  obtain ⟨⟨c, dct, dt, sl⟩, hl, hc, n, hd⟩ := hL
  replace hc : c = .type "tuple" := hc
  replace hd : dt = .seq items n := hd
  subst hc hd
  refine callType_new F.called_enumerate (by decide) (F.typeCall_enumerate_1 _) (F.newCall_enumerate_1 _) (fun obj => F.args_object_init_2 obj _) F.entry_enumerate_new
    (meets_enumT l items n dct sl) ⟨hl, ?_⟩
  have hz : (s.heap.push { cls := .type "tuple_iterator", data := .fields #[.ref l, .int 0 0] }).objs.size = s.heap.objs.size + 1 := Heap.size_push ..
  show _ ∧ _
  rw [hz]
  have he : IsEnum ((s.heap.push { cls := .type "tuple_iterator", data := .fields #[.ref l, .int 0 0] }).push
      { cls := .type "enumerate", data := .fields #[.none, .bool false, .ref s.heap.objs.size, rawInt 0, .none, .none] }) (s.heap.objs.size + 1) s.heap.objs.size 0 .none := by
    have := Heap.get?_push_size (s.heap.push { cls := .type "tuple_iterator", data := .fields #[.ref l, .int 0 0] })
      (o := { cls := .type "enumerate", data := .fields #[.none, .bool false, .ref s.heap.objs.size, rawInt 0, .none, .none] }) rfl
    rw [hz] at this; exact this
  refine ⟨⟨_, he, rfl⟩, h _ he ⟨_, Heap.get?_push_of_some _ (Heap.get?_push_size _ rfl), rfl, rfl⟩ (by rw [Heap.size_push, hz]) fun b o x => Heap.get?_push_of_some _ (Heap.get?_push_of_some _ x)⟩
end
section
variable {prog : Program} {w : World} {A : Around} {E : Value → Shared → Prop} {s : Shared}
theorem enumT_end {e it t : Addr} {i : Nat} {c : Int} {items : Array Value} {old : Value} {Q : Option Value → Shared → Prop} (hh : A.handled = none) (he : IsEnum s.heap e it c old) (hit : s.heap.IsTupleIter it t i) (ht : s.heap.IsTuple t items) (hx : items[i]? = none)
    (hQ : ∀ h', Heap.ExtBut it s.heap h' → Q none { s with heap := h' }) : wpAny (model prog w) A (pyNext (.ref e)) Q E s := by
  have hT : s.TypeIs (.ref e) "enumerate" := ⟨_, he, rfl⟩
  unfold pyNext
  refine wpAny_bind (wpAny_attempt (wpAny_callSpecial?_slot (name := Str.ofString "__next__") hT F.slot_enumerate_next (wpAny_call_entry F.slot_enumerate_next hT F.entry_enumerate_next ?_ (F.args_enumerate_next_1 _))))
  show wpAny _ _ (field (.ref e) 2 >>= _) _ _ _
  refine wpAny_bind (wpAny_field he rfl (x := .ref it) rfl ?_)
  refine wpAny_bind (wpAny_nextOf_tuple_end hh hit ht hx fun h' x he' hx' => ?_)
  obtain ⟨o, ho, hc⟩ := hx'
  refine wpAny_bind (wpAny_isInstance (T := "StopIteration") (b := true) ⟨o, ho, hc⟩ isSubtype_stop ?_)
  exact wpAny_pure (hQ _ he')
end
def IteT (K : PySem.W.Frag) (a : Addr) : It :=
  ⟨fun i H => ∃ (xs : List V) (x : V), SqT K H a xs ∧ xs[i]? = some x, fun i H v H' => ∃ T x, v = .ref T ∧ H T = none ∧ H' = upd H T (.tup [.int (i : Nat), x]) ∧ ∀ xs, SqT K H a xs → xs[i]? = some x, fun i H => ∃ xs : List V, SqT K H a xs ∧ xs.length ≤ i⟩
theorem turn_enumT {P : Program} {w : World} {K : PySem.W.Frag} {elts : List Expr} {kk : Nat} {tpos : Pos} (a e it : Addr) (hai : a ≠ it) :
    Turn P w K (.Tuple elts kk tpos) (IteT K a) [e, it] e (fun i h => (∃ old, IsEnum h e it ((i : Nat) : Int) old) ∧ h.IsTupleIter it a i ∧ e ≠ it ∧ e ≠ a) where
  mem := by simp
  obj := fun i h st b hb => by
    obtain ⟨⟨old, he⟩, ⟨o, ho, hc, hd⟩, _⟩ := st
    have e' : b = e ∨ b = it := by simpa using hb
    rcases e' with z | z
    · rw [z]; exact ⟨_, he, fun v q => nomatch q⟩
    · rw [z]; exact ⟨o, ho, fun v q => by rw [hd] at q; cases q⟩
  keep := fun i h h' st k => let ⟨⟨old, he⟩, hi, hne⟩ := st; ⟨⟨old, k e (by simp) _ he⟩, hi.at fun o q => k it (by simp) o q, hne⟩
  item := by
    intro X hP hw hK hc i pins s σ H E I hf st hg
    subst hP hw hK
    obtain ⟨⟨old, he⟩, hit, hne, hea⟩ := st
    obtain ⟨xs, x, hq, hx⟩ := hg
    obtain ⟨its, rv, p, hz⟩ := I.tuple hq
    obtain ⟨u, hu, ru⟩ := rv.get hx
    have hel : e < s.heap.objs.size := Heap.lt_size he
    have hil : it < s.heap.objs.size := by obtain ⟨_, q, _⟩ := hit; exact Heap.lt_size q
    have hlt : i < its.toArray.size := by
      have z := (List.getElem?_eq_some_iff.mp hu).1
      simpa using z
    have D := Draws.tuple (prog := X.prog) (w := X.w) (A := X.A.in1) (I.ok.hd hc) it a hai its.toArray
    refine wpAny_pyNext_enum_itemD D he ⟨hit, p⟩ hlt hne (by simp; exact ⟨hne, hea⟩) fun x' h' tk hx' ho hst' hT hsz hk => ?_
    obtain rfl : x' = u := by
      have z : its.toArray[i]? = some u := by simpa using hu
      rw [z] at hx'
      exact (Option.some.inj hx').symm
    refine ⟨_, rfl, wpAny_letOwnedTupleGo_enum (s := { s with heap := h', toks := tk + 1 }) ho fun h'' he' sb => ?_⟩
    have hT2 : h''.get? s.heap.objs.size = some { cls := .type "tuple", data := .seq #[.int i tk, x'] } := (sb.2 _ (Nat.ne_of_gt hel)).trans hT
    have new : ObjOk X.prog X.w (upd H s.heap.objs.size (.tup [.int (i : Nat), x])) h'' s.heap.objs.size (.tup [.int (i : Nat), x]) :=
      ⟨by show 2 ≤ sizeLine; decide, [.int i tk, x'], .cons ⟨_, rfl⟩ (.cons ru .nil), ⟨_, hT2, rfl, _, rfl⟩⟩
    have I1 : Inv X pins σ (upd H s.heap.objs.size (.tup [.int (i : Nat), x])) { s with heap := h'', toks := tk + 1 } :=
      I.turnedNew (ch := [e, it]) (fun b ob hb q => (sb.2 b (fun z => hb (by simp [z]))).trans (hk b ob (fun z => hb (by simp [z])) (fun z => hb (by simp [z])) q)) hf (Nat.le_refl _) new
    refine ⟨.ref s.heap.objs.size, _, I1, rfl, ⟨_, x, rfl, I.hok.fresh (Nat.le_refl _), rfl, fun ys hy => by rw [I.tuple_inj hy hq]; exact hx⟩, ⟨⟨x', ?_⟩, hst'.1.at fun o q => (sb.2 it (Ne.symm hne)).trans q, hne, hea⟩, fun b hb => ?_⟩
    · have e1 : ((i + 1 : Nat) : Int) = (i : Int) + 1 := by omega
      rw [e1]; exact he'
    · have hb' : b < s.heap.objs.size := by
        have e' : b = e ∨ b = it := by simpa using hb
        rcases e' with z | z
        · rw [z]; exact hel
        · rw [z]; exact hil
      rw [upd_ne (Nat.ne_of_lt hb')]
      exact (hf b hb).1
  done := by
    intro X hP hw hK hc i pins s σ H E I hf st hg
    subst hP hw hK
    obtain ⟨⟨old, he⟩, hit, hne, hea⟩ := st
    obtain ⟨xs, hq, hx⟩ := hg
    obtain ⟨its, rv, p, hz⟩ := I.tuple hq
    obtain ⟨f0, f1, f2, f3, f4, f5⟩ := hf it (by simp)
    have hl := rv.length
    exact enumT_end (I.ok.hd hc) he hit p (by simp; omega) fun h' eb => ⟨rfl, I.turned (t' := s.toks) (fun b o hb q => eb b o hb q) f0 f1 f3 f4 f5⟩
  self := fun A i s Q E st h => let ⟨⟨_, he⟩, _⟩ := st; wpAny_pyIter_enum he h
def iEnumA (K : PySem.W.Frag) (ta : TA) : TI := fun σ H R => ta σ H fun vs H1 => ∃ a xs, vs = [.ref a] ∧ ((SqL K H1 a xs ∧ R (Ite K a) H1) ∨ (SqT K H1 a xs ∧ R (IteT K a) H1))
theorem pi_enumA {X : Cx} {e : Expr} {ta : TA} {p pos tpos : Pos} {elts : List Expr} {kk : Nat} (hg : Gl X "enumerate") (hm : X.mg "enumerate" = none) (ha : PA X [e] ta) (hs : starEach [e] X.env = [(false, eval e X.env)] := by rfl) :
    PI X (.Tuple elts kk tpos) (.Call (.Name "enumerate" p) [e] [] pos) (iEnumA X.K ta) := by
  refine ⟨fun pins s σ H R I h => ?_⟩
  refine Call_ (ld_blt I hg hm boot_enumerate (PyProof.Rows.callWith_type1 (thn (ha.run pos pins s σ H _ I h) fun us s1 ⟨vs, H1, I1, r1, q1⟩ => ?_) hs rfl))
  obtain ⟨a, xs, ex, q⟩ := q1
  subst ex
  cases r1 with
  | cons r rr =>
    cases rr
    cases r
    have fp : ∀ b ∈ [s1.heap.objs.size + 1, s1.heap.objs.size], FpOk X pins H1 b := fun b hb => by
      have e' : b = s1.heap.objs.size + 1 ∨ b = s1.heap.objs.size := by simpa using hb
      have hle : s1.heap.objs.size ≤ b := by
        rcases e' with z | z
        · rw [z]; exact Nat.le_add_right _ _
        · rw [z]; exact Nat.le_refl _
      exact I1.fpOk hle (I1.hok.fresh hle)
    rcases q with ⟨hq, q⟩ | ⟨hq, q⟩
    · obtain ⟨its, rv, p', hz⟩ := I1.list hq
      refine call_enumerate_list p'.isList fun h' he hit hsz hk => wpAny_pyIter_enum he ?_
      have I2 : Inv X pins σ H1 { s1 with heap := h' } := I1.kept (t' := s1.toks) hk
      exact ⟨s1.heap.objs.size + 1, [s1.heap.objs.size + 1, s1.heap.objs.size], _, _, H1, rfl, I2, turn_enum a (s1.heap.objs.size + 1) s1.heap.objs.size, ⟨⟨.none, he⟩, hit, Nat.succ_ne_self _⟩, fp, q⟩
    · obtain ⟨its, rv, p', hz⟩ := I1.tuple hq
      refine call_enumT p' fun h' he hit hsz hk => wpAny_pyIter_enum he ?_
      have I2 : Inv X pins σ H1 { s1 with heap := h' } := I1.kept (t' := s1.toks) hk
      have hal : a < s1.heap.objs.size := by obtain ⟨o, z, _⟩ := p'; exact Heap.lt_size z
      exact ⟨s1.heap.objs.size + 1, [s1.heap.objs.size + 1, s1.heap.objs.size], _, _, H1, rfl, I2, turn_enumT a (s1.heap.objs.size + 1) s1.heap.objs.size (Nat.ne_of_lt hal), ⟨⟨.none, he⟩, hit, Nat.succ_ne_self _, fun z => by rw [← z] at hal; exact absurd hal (Nat.not_lt.mpr (Nat.le_succ _))⟩, fp, q⟩
theorem walk_enumT {K : PySem.W.Frag} {a : Addr} {xs : List V} : Walk (IteT K a) xs.length (fun H => SqT K H a xs) (YPair (fun i => some (.int (i : Nat))) (fun i => xs[i]?)) := by
  refine ⟨fun i _ hi q => ⟨xs, xs[i], q, by simp [hi]⟩, fun _ q => ⟨xs, q, Nat.le_refl _⟩, fun i H v H' _ q y => ?_⟩
  obtain ⟨T, x, h1, h2, h3, h4⟩ := y
  exact ⟨T, .int (i : Nat), x, h1, h2, h3, rfl, h4 xs q⟩
end Ag

namespace Ag
open PySem PySem.Spec PyProof.Rows L2
/-! ### rows and contexts -/
abbrev Row := List Nat × Fm
def rowD (r : Row) : PyData := .tuple [.str (SX.S r.1), r.2.dat]
def RowAt (K : PySem.W.Frag) (H : Hp) (v : V) (r : Row) : Prop := Dp K H v (rowD r)
section
variable {K : PySem.W.Frag} {H H' : Hp} {v : V} {r : Row}
theorem row_at (h : RowAt K H v r) : ∃ p x, v = .ref p ∧ SqT K H p [.str (SX.S r.1), x] ∧ Fr K H x r.2 := by
  cases h with
  | tup hp ha =>
    obtain ⟨x, y, rfl, hx, hy⟩ := dpall2 ha
    cases hx
    exact ⟨_, y, rfl, hp, hy⟩
theorem mk_row {p : Addr} {x : V} (h : SqT K H p [.str (SX.S r.1), x]) (hx : Fr K H x r.2) : RowAt K H (.ref p) r := .tup h (.cons (.str _) (.cons hx .nil))
theorem RowAt.same (s : Same H H') (h : RowAt K H v r) : RowAt K H' v r := Dp_same s h
theorem RowAt.tp (s : Tp H H') (h : RowAt K H v r) : RowAt K H' v r := by
  obtain ⟨p, x, rfl, sp, fx⟩ := row_at h
  exact mk_row (s.seq sp) (fx.tp s)
theorem RowAt.kp {b l : Addr} (k : Kp b H H') (g : Bag H b l) (h : RowAt K H v r) : RowAt K H' v r := by
  obtain ⟨p, x, rfl, sp, fx⟩ := row_at h
  exact mk_row (kp_tup k g sp) (fx.kp k g)
end
def RowsAt (K : PySem.W.Frag) (H : Hp) (vs : List V) (rs : List Row) : Prop := Paired (RowAt K H) vs rs
theorem RowsAt.same {K : PySem.W.Frag} {H H' : Hp} {vs : List V} {rs : List Row} (s : Same H H') (h : RowsAt K H vs rs) : RowsAt K H' vs rs := paired_imp (fun _ _ z => z.same s) h
theorem RowsAt.tp {K : PySem.W.Frag} {H H' : Hp} {vs : List V} {rs : List Row} (s : Tp H H') (h : RowsAt K H vs rs) : RowsAt K H' vs rs := paired_imp (fun _ _ z => z.tp s) h
theorem RowsAt.kp {K : PySem.W.Frag} {H H' : Hp} {vs : List V} {rs : List Row} {b l : Addr} (k : Kp b H H') (g : Bag H b l) (h : RowsAt K H vs rs) : RowsAt K H' vs rs := paired_imp (fun _ _ z => z.kp k g) h
theorem rows_at {K : PySem.W.Frag} {H : Hp} : ∀ {vs : List V} {rs : List Row}, RowsAt K H vs rs → ∀ {i : Nat} {v : V}, vs[i]? = some v → ∃ r, rs[i]? = some r ∧ RowAt K H v r
  | _, _, .nil, i, v, h => by simp at h
  | _, _, .cons z zs, 0, v, h => by
    simp at h
    subst h
    exact ⟨_, rfl, z⟩
  | _, _, .cons z zs, i + 1, v, h => by
    simp at h
    obtain ⟨r, e, q⟩ := rows_at (K := K) (H := H) zs h
    exact ⟨r, by simpa using e, q⟩
theorem rows_at2 {K : PySem.W.Frag} {H : Hp} : ∀ {vs : List V} {rs : List Row}, RowsAt K H vs rs → ∀ {i : Nat} {r : Row}, rs[i]? = some r → ∃ v, vs[i]? = some v ∧ RowAt K H v r
  | _, _, .nil, i, v, h => by simp at h
  | _, _, .cons z zs, 0, v, h => by
    simp at h
    subst h
    exact ⟨_, rfl, z⟩
  | _, _, .cons z zs, i + 1, v, h => by
    simp at h
    obtain ⟨r, e, q⟩ := rows_at2 (K := K) (H := H) zs h
    exact ⟨r, by simpa using e, q⟩
/-- whether the program takes it as a row -/
def isRw (r : Row) : Bool := isNm r.1 && isB 10 false r.2
/-- small enough to be looked at -/
structure Rok (r : Row) : Prop where
  len : r.1.length ≤ 1000
  sml : Sml r.2
  shp : SeqAt.shaped r.2.dat = true
  shr : SeqAt.shaped (rowD r) = true
theorem eqv_row (r s : Row) : PyData.eqv (rowD r) (rowD s) = decide (r = s) := by
  unfold rowD
  rw [eqv2, eqvStr, eqv_dat]
  have e : decide (SX.S r.1 = SX.S s.1) = decide (r.1 = s.1) := decS _ _
  rw [e]
  obtain ⟨a, b⟩ := r
  obtain ⟨c, d⟩ := s
  by_cases h1 : a = c <;> by_cases h2 : b = d <;> simp [h1, h2]
/-- the least places: the first that fits, each time -/
def gr (xs : List Row) : List Row → Nat → Option (List Nat)
  | [], _ => some []
  | r :: rs, at' => match (xs.drop at').findIdx? (fun x => decide (x = r)) with
    | none => none
    | some k => (gr xs rs (at' + k + 1)).map (fun ps => (at' + k) :: ps)
end Ag
namespace Ag
open PySem PySem.Spec PyProof.Rows L2
/-! ### what stands behind an own object -/
theorem insT {K : PySem.W.Frag} {H H' : Hp} {x C dx p : Addr} {fs : List (Str × V)} {ys : List V} (e : H x = some (.ins C dx fs)) (k : Kp x H H') (h : SqT K H p ys) : SqT K H' p ys := by
  rcases h with (h | ⟨o, h⟩) | h
  · exact .inl (.inl (k _ _ h (ne_of h e (by intro z; cases z))))
  · exact .inl (.inr ⟨o, k _ _ h (ne_of h e (by intro z; cases z))⟩)
  · exact .inr h
theorem insTp {H H' : Hp} {x C dx : Addr} {fs : List (Str × V)} (e : H x = some (.ins C dx fs)) (k : Kp x H H') : Tp H H' := fun p xs h => by
  rcases h with h | ⟨o, h⟩
  · exact .inl (k _ _ h (ne_of h e (by intro z; cases z)))
  · exact .inr ⟨o, k _ _ h (ne_of h e (by intro z; cases z))⟩
/-- an own object with the tuple at a as its rows -/
def HeldAt (C : Addr) (H : Hp) (x a : Addr) : Prop := ∃ dx, H x = some (.ins C dx [("held", .ref a)])
theorem HeldAt.same {C : Addr} {H H' : Hp} {x a : Addr} (s : Same H H') (h : HeldAt C H x a) : HeldAt C H' x a := by
  obtain ⟨dx, e⟩ := h
  exact ⟨dx, s _ _ e⟩
def CtxAt (K : PySem.W.Frag) (C : Addr) (H : Hp) (x : Addr) (rs : List Row) : Prop := ∃ a vs, HeldAt C H x a ∧ SqT K H a vs ∧ RowsAt K H vs rs
theorem CtxAt.same {K : PySem.W.Frag} {C : Addr} {H H' : Hp} {x : Addr} {rs : List Row} (s : Same H H') (h : CtxAt K C H x rs) : CtxAt K C H' x rs := by
  obtain ⟨a, vs, h1, h2, h3⟩ := h
  exact ⟨a, vs, h1.same s, sameT s h2, h3.same s⟩
def RowsIn (K : PySem.W.Frag) (H : Hp) (p : Addr) (ys : List V) : Prop := SqL K H p ys ∨ SqT K H p ys
theorem RowsIn.same {K : PySem.W.Frag} {H H' : Hp} {p : Addr} {ys : List V} (s : Same H H') (h : RowsIn K H p ys) : RowsIn K H' p ys := h.elim (fun z => .inl (s.seq z)) fun z => .inr (sameT s z)
theorem lk1 {a : Addr} : ([("held", V.ref a)] : List (Str × V)).lookup ("held" : Str) = some (.ref a) := by
  show (putF "held" (.ref a) []).lookup ("held" : Str) = some (.ref a)
  rw [lookup_putF, if_pos rfl]
/-- what the walks ask of the two classes as the top has made them -/
structure CtxM (K : PySem.W.Frag) (mg : Str → Option Value) (CK CC fK fC : Addr) (mc : Value) : Prop where
  cK : Cls K CK
  cC : Cls K CC
  nK : NoAttr K CK "held"
  nC : NoAttr K CC "held"
  gK : mg "KnownRows" = some (.ref CK)
  gC : mg "Context" = some (.ref CC)
  kK : Mk K CK fK
  kC : Mk K CC fC
  il : PySem.W.kitOne K (.type "list") (.ref CK) = some false
  it : PySem.W.kitOne K (.type "tuple") (.ref CK) = some false
  ik : PySem.W.kitOne K (.ref CK) (.ref CK) = some true
  ha : PySem.W.findIn K (.ref CK) "__class__" = some (some (.builtin "object.__class__"))
  hn : PySem.W.specialIn K (.builtin "object.__class__") "__get__" = some (some (.builtin "getset_descriptor.__get__"))
  tk : PySem.W.takesIn K (.builtin "object.__class__") = some true
  mr : PySem.W.mroIn K CK (.type "object") = some true
  rd : ClX.CRead K CC mc
  mo : ∃ u, ClX.CVal K CC mc "MOST" (.int 40) u
  isi : mg "isinstance" = none
  len : mg "len" = none
  tuple : mg "tuple" = none
  enum : mg "enumerate" = none
end Ag
namespace Ag
open PySem PySem.Spec PyProof.Rows L2
/-! ### the least places -/
/-- the first place from a on at which r stands -/
structure Fit (xs : List Row) (r : Row) (a k : Nat) : Prop where
  le : a ≤ k
  at_ : xs[k]? = some r
  no : ∀ j, a ≤ j → j < k → xs[j]? ≠ some r
inductive Gr (xs : List Row) : List Row → Nat → Option (List Nat) → Prop
  | nil (a : Nat) : Gr xs [] a (some [])
  | none {r : Row} {rs : List Row} {a : Nat} (h : ∀ j, a ≤ j → xs[j]? ≠ some r) : Gr xs (r :: rs) a none
  | some {r : Row} {rs : List Row} {a k : Nat} {o : Option (List Nat)} (h : Fit xs r a k) (t : Gr xs rs (k + 1) o) : Gr xs (r :: rs) a (o.map (k :: ·))
theorem pre_map (o : Option (List Nat)) (ps : List Nat) (k : Nat) : (o.map (k :: ·)).map (ps ++ ·) = o.map ((ps ++ [k]) ++ ·) := by
  cases o with
  | none => rfl
  | some l => simp
end Ag
namespace Ag
open PySem PySem.Spec PyProof.Rows L2
theorem lk0 {m : Str} {a : Addr} (h : ¬ m = "held") : ([("held", V.ref a)] : List (Str × V)).lookup m = none := by
  show (putF "held" (.ref a) []).lookup m = none
  rw [lookup_putF, if_neg h]
  rfl
end Ag

namespace Ag
open PySem PySem.Spec PyProof.Rows L2
/-! ### o.m(k = v, ..), nothing by position -/
def tMethW (C : Addr) (m : Str) (n : Nat) (sp : Sp) (gV : List V → List V → List V) (E : XK) (ta : TE) (tk : TA) : TE := fun σ H Q => ta σ H fun x H1 => ∃ a dx fs, x = .ref a ∧ H1 a = some (.ins C dx fs) ∧ fs.lookup m = none ∧
  tk σ H1 fun zs H2 => zs.length = n ∧ sp (gV [x] zs) H2 Q E
theorem pe_methW {X : Cx} {CX : CXT} {k : Nat} {f C : Addr} {fd : FuncData} {ps ks : List Str} {sp : Sp} {E : XK} {m : Str} {apos pos : Pos} {o : Expr} {kws : List Keyword} {ta : TE} {tk : TA} {g : List Value → List Value → List Value} {gV : List V → List V → List V} {pl : Sem Bool}
    (he : PE X o ta) (c : Cls X.K C) (hm : Meth X.K C m f) (F : FnOk X.prog X.w X.K X.mg X.base CX k f fd ps sp) (hr : Room k X.A) (hb : KBn X.K fd ps 1 ks g gV) (hx : Passes CX X E) (hkw : PK X kws tk)
    (hall : (backToKw pos (keywordEach kws X.env)).all (·.1.isSome) = true := by rfl) (hks : (backToKw pos (keywordEach kws X.env)).filterMap (·.1) = ks := by rfl)
    (hpl : ((backTo pos (starEach [] X.env)).any (·.1) || (backToKw pos (keywordEach kws X.env)).any (·.1.isNone)) = false := by rfl)
    (ht : eval (.Call (.Attribute o m apos) [] kws pos) X.env = (do
      let ov ← eval o X.env
      standAt apos.atName
      let (f, first) ← holding [ov] (getMethod ov m pl)
      callWith pos f first (backTo pos (starEach [] X.env)) (backToKw pos (keywordEach kws X.env))) := by rfl) :
    PE X (.Call (.Attribute o m apos) [] kws pos) (tMethW C m ks.length sp gV E ta tk) := by
  refine ⟨fun pins s σ H Q I h => ?_⟩
  refine PySem.W.methodCall_KW (pl := pl) (thn (he.run pins s σ H _ I h) fun u s1 ⟨x, H1, I1, rx, a, dx, fs, ex, ea, l, q⟩ => ?_) ht
  subst ex
  obtain rfl : u = Value.ref a := rx
  refine getmeth_ok I1 ea c hm l ?_
  refine PySem.W.callWith_KW0 (first := [.ref a]) (h₀ := X.base) I.ok.mod.kin hm.kp hall ?_ hpl
  refine thn (hkw.run pos pins s1 σ H1 _ I1 q) fun ws s2 ⟨zs, H2, I2, rz, l2, q2⟩ => ⟨I2.kIn, ?_⟩
  rw [hks]
  exact run_fnN (us := [.ref a]) (vs := [.ref a]) F hr hb hx I2 (.cons rfl .nil) rz rfl l2 q2
/-! ### min of a list of lists of numbers -/
theorem lay_ints : ∀ b : List Int, PyData.canLayAll0 (b.map PyData.int) = true
  | [] => by simp only [List.map_nil, PyData.canLayAll0]
  | z :: zs => by simp only [List.map_cons, PyData.canLayAll0, PyData.canLay0, lay_ints zs, Bool.and_self]
open PySem.W in
theorem call_minLL {X : Cx} (hh : X.A.handled = none) (hu : X.A.units + 64 < cLine) : CallR X (.builtin "min") (fun xs H Q => ∃ (l : Addr) (vs : List V) (a : List Int) (r : List (List Int)), xs = [.ref l] ∧ SqL X.K H l vs ∧ DpAll X.K H vs ((a :: r).map Datum.toD) ∧
    ∀ v, v ∈ vs → Dp X.K H v (Datum.toD (minOf a r)) → Q v H) := by
  intro pins s σ H xs us Q I rr h
  obtain ⟨l, vs, a, r, rfl, hq, hd, q⟩ := h
  obtain ⟨u, rfl, rx⟩ := vals1 rr
  cases rx
  obtain ⟨its, rv, p, hz⟩ := I.list hq
  obtain ⟨as, ra⟩ := Dp.readsAll I _ vs its hd rv
  refine min_list_data hh p.isList ra (alikeAll_datum (a :: r)) (room_all (depthAll_map (a :: r)) ?_) fun i v h' tk bs hi rd hk => ?_
  · show X.A.units + 1 + Datum.depth (List Int) < cLine
    have e : Datum.depth (List Int) = 1 := rfl
    omega
  · have hi' : its[i]? = some v := by simpa using hi
    have hl := (List.getElem?_eq_some_iff.mp hi').1
    have hl2 : i < vs.length := by rw [rv.length]; exact hl
    obtain ⟨x, ex⟩ : ∃ x, vs[i]? = some x := ⟨_, List.getElem?_eq_getElem hl2⟩
    obtain ⟨u, hu', ru⟩ := rv.get ex
    rw [hi'] at hu'
    cases hu'
    obtain ⟨d, ed, hdx⟩ := dpall_get hd ex
    obtain ⟨as', rs⟩ := Dp.reads I d x v hdx ru
    have lay : d.canLay0 = true := by
      have hm : d ∈ (a :: r).map Datum.toD := List.mem_of_getElem? ed
      obtain ⟨b, _, rfl⟩ := List.mem_map.mp hm
      show PyData.canLay0 (.list (b.map PyData.int)) = true
      simp only [PyData.canLay0]
      exact lay_ints b
    have e1 : d = minD (Datum.toD a) (r.map Datum.toD) := SeqAt.Reads.unique d _ v as' bs lay (reads_keeps hk rs) rd
    rw [minD_map] at e1
    exact ⟨x, H, I.kept (t' := tk) hk, ru, q x (List.mem_of_getElem? ex) (e1 ▸ hdx)⟩
end Ag

namespace Ag
open PySem PySem.Spec PySem.W PyProof.Rows L2
/-! ### all ascending places -/
def Wy (xs : List Row) : List Row → Nat → List Nat → Prop
  | [], _, [] => True
  | r :: rs, a, k :: w => a ≤ k ∧ xs[k]? = some r ∧ Wy xs rs (k + 1) w
  | _, _, _ => False
theorem Wy.mono {xs : List Row} : ∀ {rs : List Row} {a b : Nat} {w : List Nat}, Wy xs rs a w → b ≤ a → Wy xs rs b w
  | [], a, b, [], _, _ => trivial
  | [], a, b, k :: w, h, _ => h.elim
  | r :: rs, a, b, [], h, _ => h.elim
  | r :: rs, a, b, k :: w, h, e => ⟨Nat.le_trans e h.1, h.2.1, h.2.2⟩
def zs_ (w : List Nat) : List Int := w.map fun n : Nat => (n : Int)
theorem zs_inj : ∀ {a b : List Nat}, zs_ a = zs_ b → a = b
  | [], [], _ => rfl
  | [], _ :: _, h => by simp [zs_] at h
  | _ :: _, [], h => by simp [zs_] at h
  | x :: xs, y :: ys, h => by
    simp only [zs_, List.map_cons, List.cons.injEq] at h
    rw [zs_inj (a := xs) (b := ys) h.2]
    have : x = y := by omega
    rw [this]
theorem ltI {a b : Int} : DatumOrd.lt a b = decide (a < b) := rfl
theorem listLt_self : ∀ a : List Int, listLt a a = false
  | [] => rfl
  | x :: xs => by rw [listLt, if_pos rfl]; exact listLt_self xs
theorem listLt_anti : ∀ {a b : List Int}, listLt a b = false → listLt b a = false → a = b
  | [], [], _, _ => rfl
  | [], _ :: _, h, _ => by simp [listLt] at h
  | _ :: _, [], _, h => by simp [listLt] at h
  | x :: xs, y :: ys, h, g => by
    rw [listLt] at h g
    by_cases e : x = y
    · subst e
      rw [if_pos rfl] at h g
      rw [listLt_anti h g]
    · rw [if_neg e, ltI] at h
      rw [if_neg (Ne.symm e), ltI] at g
      have h := of_decide_eq_false h
      have g := of_decide_eq_false g
      omega
theorem gr_ways {xs : List Row} {rs : List Row} {a : Nat} {o : Option (List Nat)} (h : Gr xs rs a o) : (match o with | none => ∀ w, ¬ Wy xs rs a w | some ps => Wy xs rs a ps ∧ ∀ w, Wy xs rs a w → listLt (zs_ w) (zs_ ps) = false) := by
  induction h with
  | nil a =>
    refine ⟨trivial, fun w hw => ?_⟩
    cases w with
    | nil => rfl
    | cons k w => exact hw.elim
  | none h =>
    intro w hw
    cases w with
    | nil => exact hw.elim
    | cons k w => exact h k hw.1 hw.2.1
  | @some r rs a k o h t ih =>
    have first : ∀ k' w, Wy xs (r :: rs) a (k' :: w) → k ≤ k' := fun k' w hw => by
      by_cases e : k ≤ k'
      · exact e
      · exact absurd hw.2.1 (h.no k' hw.1 (by omega))
    cases o with
    | none =>
      show ∀ w, ¬ Wy xs (r :: rs) a w
      intro w hw
      cases w with
      | nil => exact hw.elim
      | cons k' w => exact ih w (hw.2.2.mono (by have := first k' w hw; omega))
    | some ps =>
      refine ⟨⟨h.le, h.at_, ih.1⟩, fun w hw => ?_⟩
      cases w with
      | nil => exact hw.elim
      | cons k' w =>
        have e := first k' w hw
        show listLt ((k' : Int) :: zs_ w) ((k : Int) :: zs_ ps) = false
        rw [listLt]
        by_cases e2 : (k' : Int) = (k : Int)
        · rw [if_pos e2]
          have : k' = k := by omega
          subst this
          exact ih.2 w hw.2.2
        · rw [if_neg e2, ltI]
          exact decide_eq_false (by omega)
theorem min_fold {ps : List Int} : ∀ (l : List (List Int)) (acc : List Int), (acc = ps ∨ ps ∈ l) → (∀ w ∈ acc :: l, listLt w ps = false) → l.foldl (fun a y => if DatumOrd.lt y a = true then y else a) acc = ps
  | [], acc, h, _ => by
    rcases h with h | h
    · exact h
    · cases h
  | y :: l, acc, h, hw => by
    rw [List.foldl_cons]
    have hl : ∀ w ∈ l, listLt w ps = false := fun w z => hw w (by simp [z])
    have hy : listLt y ps = false := hw y (by simp)
    have ha : listLt acc ps = false := hw acc (by simp)
    by_cases e : DatumOrd.lt y acc = true
    · rw [if_pos e]
      refine min_fold l y ?_ (fun w z => ?_)
      · rcases h with rfl | h
        · have : listLt y acc = true := e
          rw [hy] at this
          cases this
        · rcases List.mem_cons.mp h with rfl | h
          · exact .inl rfl
          · exact .inr h
      · rcases List.mem_cons.mp z with rfl | z
        · exact hy
        · exact hl w z
    · rw [if_neg e]
      refine min_fold l acc ?_ (fun w z => ?_)
      · rcases h with rfl | h
        · exact .inl rfl
        · rcases List.mem_cons.mp h with rfl | h
          · exact .inl (listLt_anti ha (Bool.eq_false_iff.mpr e))
          · exact .inr h
      · rcases List.mem_cons.mp z with rfl | z
        · exact ha
        · exact hl w z
theorem min_is {ps a : List Int} {r : List (List Int)} (h : ps ∈ a :: r) (hw : ∀ w ∈ a :: r, listLt w ps = false) : minOf a r = ps :=
  min_fold r a ((List.mem_cons.mp h).imp Eq.symm id) hw
/-- the next place that may be taken -/
def lo (w : List Nat) : Nat := match w.getLast? with | none => 0 | some k => k + 1
theorem lo_snoc (w : List Nat) (k : Nat) : lo (w ++ [k]) = k + 1 := by simp [lo]
def ext (xs : List Row) (r : Row) (w : List Nat) : List (List Nat) := ((List.range' (lo w) (xs.length - lo w)).filter fun k => decide (xs[k]? = some r)).map fun k => w ++ [k]
def ways (xs : List Row) : List Row → List (List Nat) → List (List Nat)
  | [], W => W
  | r :: rs, W => ways xs rs (W.flatMap (ext xs r))
theorem mem_ext {xs : List Row} {r : Row} {w u : List Nat} : u ∈ ext xs r w ↔ ∃ k, lo w ≤ k ∧ xs[k]? = some r ∧ u = w ++ [k] := by
  unfold ext
  rw [List.mem_map]
  constructor
  · rintro ⟨k, hk, rfl⟩
    rw [List.mem_filter, List.mem_range'_1] at hk
    exact ⟨k, hk.1.1, of_decide_eq_true hk.2, rfl⟩
  · rintro ⟨k, h1, h2, rfl⟩
    have h3 := (List.getElem?_eq_some_iff.mp h2).1
    exact ⟨k, by rw [List.mem_filter, List.mem_range'_1]; exact ⟨⟨h1, by omega⟩, decide_eq_true h2⟩, rfl⟩
theorem mem_ways {xs : List Row} : ∀ {rs : List Row} {W : List (List Nat)} {w : List Nat}, w ∈ ways xs rs W ↔ ∃ u ∈ W, ∃ t, w = u ++ t ∧ Wy xs rs (lo u) t
  | [], W, w => by
    constructor
    · intro h
      exact ⟨w, h, [], by simp, trivial⟩
    · rintro ⟨u, hu, t, rfl, ht⟩
      cases t with
      | nil => rw [List.append_nil]; exact hu
      | cons k t => exact ht.elim
  | r :: rs, W, w => by
    show w ∈ ways xs rs (W.flatMap (ext xs r)) ↔ _
    rw [mem_ways]
    constructor
    · rintro ⟨u, hu, t, rfl, ht⟩
      obtain ⟨v, hv, hu⟩ := List.mem_flatMap.mp hu
      obtain ⟨k, h1, h2, rfl⟩ := mem_ext.mp hu
      rw [lo_snoc] at ht
      exact ⟨v, hv, k :: t, by simp, h1, h2, ht⟩
    · rintro ⟨u, hu, t, rfl, ht⟩
      cases t with
      | nil => exact ht.elim
      | cons k t =>
        exact ⟨u ++ [k], List.mem_flatMap.mpr ⟨u, hu, mem_ext.mpr ⟨k, ht.1, ht.2.1, rfl⟩⟩, t, by simp, by rw [lo_snoc]; exact ht.2.2⟩
theorem ext_len (xs : List Row) (r : Row) (w : List Nat) : (ext xs r w).length ≤ xs.length := by
  unfold ext
  rw [List.length_map]
  refine Nat.le_trans (List.length_filter_le _ _) ?_
  rw [List.length_range']
  omega
theorem step_len {xs : List Row} {r : Row} : ∀ W : List (List Nat), (W.flatMap (ext xs r)).length ≤ xs.length * W.length
  | [] => by simp
  | w :: W => by
    rw [List.flatMap_cons, List.length_append, List.length_cons, Nat.mul_succ]
    have := ext_len xs r w
    have := step_len (xs := xs) (r := r) W
    omega
/-- what the law's own search finds is what the program finds -/
theorem gr_min {xs rs : List Row} {o : Option (List Nat)} (h : Gr xs rs 0 o) : match o with | none => ways xs rs [[]] = [] | some ps => ps ∈ ways xs rs [[]] ∧ ∀ w ∈ ways xs rs [[]], listLt (zs_ w) (zs_ ps) = false := by
  have g := gr_ways h
  have iff : ∀ w, w ∈ ways xs rs [[]] ↔ Wy xs rs 0 w := fun w => by
    rw [mem_ways]
    constructor
    · rintro ⟨u, hu, t, rfl, ht⟩
      rw [List.mem_singleton] at hu
      subst hu
      exact ht
    · intro hw
      exact ⟨[], by simp, w, by simp, hw⟩
  cases o with
  | none =>
    show ways xs rs [[]] = []
    cases e : ways xs rs [[]] with
    | nil => rfl
    | cons w W => exact absurd ((iff w).mp (by rw [e]; simp)) (g w)
  | some ps => exact ⟨(iff ps).mpr g.1, fun w hw => g.2 w ((iff w).mp hw)⟩
end Ag
namespace Ag
open PySem PySem.Spec PySem.W PyProof.Rows L2
/-! ### lists of places as data -/
def dW (w : List Nat) : PyData := .list ((zs_ w).map PyData.int)
theorem dW_eq (w : List Nat) : dW w = Datum.toD (zs_ w) := rfl
theorem dI : ∀ b : List Int, PyData.depthAll (b.map PyData.int) = 0
  | [] => rfl
  | z :: zs => by
    show max 0 (PyData.depthAll (zs.map PyData.int)) = 0
    rw [dI zs]
    rfl
theorem shaped_dW (w : List Nat) : SeqAt.shaped (dW w) = true := by
  unfold SeqAt.shaped
  rw [Bool.and_eq_true]
  refine ⟨?_, ?_⟩
  · show PyData.canLayAll0 ((zs_ w).map PyData.int) = true
    exact lay_ints _
  · show decide (PyData.depthAll ((zs_ w).map PyData.int) + 1 ≤ 64) = true
    rw [dI]
    decide
theorem lay_W : ∀ W : List (List Nat), PyData.canLayAll0 (W.map dW) = true ∧ PyData.depthAll (W.map dW) ≤ 1
  | [] => ⟨rfl, Nat.zero_le _⟩
  | w :: W => by
    obtain ⟨h1, h2⟩ := lay_W W
    refine ⟨?_, ?_⟩
    · show (PyData.canLayAll0 ((zs_ w).map PyData.int) && PyData.canLayAll0 (W.map dW)) = true
      rw [lay_ints, h1]
      rfl
    · show max (PyData.depthAll ((zs_ w).map PyData.int) + 1) (PyData.depthAll (W.map dW)) ≤ 1
      rw [dI]
      omega
theorem shaped_W (W : List (List Nat)) : SeqAt.shaped (.list (W.map dW)) = true := by
  unfold SeqAt.shaped
  rw [Bool.and_eq_true]
  refine ⟨(lay_W W).1, ?_⟩
  show decide (PyData.depthAll (W.map dW) + 1 ≤ 64) = true
  exact decide_eq_true (by have := (lay_W W).2; omega)
theorem shaped_nil : SeqAt.shaped (.list []) = true := shaped_W []
theorem eqv_w0 (w : List Nat) : PyData.eqv (dW w) (.list []) = decide (w = []) := by
  cases w with
  | nil => rfl
  | cons k w => simp [dW, zs_, PyData.eqv, PyData.eqvAll]
theorem eqv_W0 (W : List (List Nat)) : PyData.eqv (.list (W.map dW)) (.list []) = decide (W = []) := by
  cases W with
  | nil => rfl
  | cons k w => simp [PyData.eqv, PyData.eqvAll]
def WP (H : Hp) (v : V) (w : List Nat) : Prop := ∃ p, v = .ref p ∧ H p = some (.lst (w.map fun n : Nat => V.int (n : Int)))
theorem WP.same {H H' : Hp} {v : V} {w : List Nat} (s : Same H H') (h : WP H v w) : WP H' v w := by
  obtain ⟨p, h1, h2⟩ := h
  exact ⟨p, h1, s _ _ h2⟩
def WaysAt (H : Hp) (L : Addr) (W : List (List Nat)) : Prop := ∃ vs, H L = some (.lst vs) ∧ Paired (WP H) vs W
theorem WaysAt.same {H H' : Hp} {L : Addr} {W : List (List Nat)} (s : Same H H') (h : WaysAt H L W) : WaysAt H' L W := by
  obtain ⟨vs, h1, h2⟩ := h
  exact ⟨vs, s _ _ h1, paired_imp (fun _ _ z => z.same s) h2⟩
theorem paired_app {α β : Type} {R : α → β → Prop} : ∀ {l l' : List α} {m m' : List β}, Paired R l m → Paired R l' m' → Paired R (l ++ l') (m ++ m')
  | _, _, _, _, .nil, h => h
  | _, _, _, _, .cons z zs, h => .cons z (paired_app zs h)
theorem paired_get {α β : Type} {R : α → β → Prop} : ∀ {l : List α} {m : List β}, Paired R l m → ∀ {i : Nat} {v : α}, l[i]? = some v → ∃ r, m[i]? = some r ∧ R v r
  | _, _, .nil, i, v, h => by simp at h
  | _, _, .cons z zs, 0, v, h => by
    simp at h
    subst h
    exact ⟨_, rfl, z⟩
  | _, _, .cons z zs, i + 1, v, h => by
    simp at h
    obtain ⟨r, e, q⟩ := paired_get zs h
    exact ⟨r, by simpa using e, q⟩
/-- the place taken away -/
def del (H : Hp) (D : Addr) : Hp := fun a => if a = D then none else H a
theorem del_upd (H : Hp) (D : Addr) (o : HO) : del (upd H D o) D = del H D := by
  funext a
  unfold del
  by_cases h : a = D
  · rw [if_pos h, if_pos h]
  · rw [if_neg h, if_neg h, upd_ne h]
theorem del_ne {H : Hp} {D a : Addr} (h : a ≠ D) : del H D a = H a := if_neg h
theorem del_same (H : Hp) (D : Addr) : Same (del H D) H := fun a o e => by
  by_cases h : a = D
  · subst h
    simp [del] at e
  · rw [del_ne h] at e
    exact e
theorem del_mono {H H' : Hp} {D : Addr} (s : Same H H') : Same (del H D) (del H' D) := fun a o e => by
  by_cases h : a = D
  · subst h
    simp [del] at e
  · rw [del_ne h] at e ⊢
    exact s _ _ e
theorem ints_dp {K : PySem.W.Frag} {H : Hp} : ∀ (w : List Nat), DpAll K H (w.map fun n : Nat => V.int (n : Int)) ((zs_ w).map PyData.int)
  | [] => .nil
  | n :: w => .cons (.int _) (ints_dp w)
theorem WP.dp {K : PySem.W.Frag} {H : Hp} {v : V} {w : List Nat} (h : WP H v w) : Dp K H v (dW w) := by
  obtain ⟨p, rfl, h⟩ := h
  exact .lst (SqL.of h) (ints_dp w)
theorem ways_dp {K : PySem.W.Frag} {H : Hp} : ∀ {vs : List V} {W : List (List Nat)}, Paired (WP H) vs W → DpAll K H vs (W.map dW)
  | _, _, .nil => .nil
  | _, _, .cons z zs => .cons z.dp (ways_dp zs)
theorem ways_snoc {xs : List Row} {r : Row} : ∀ {rs : List Row} {W : List (List Nat)}, ways xs (rs ++ [r]) W = (ways xs rs W).flatMap (ext xs r)
  | [], W => rfl
  | s :: rs, W => by
    show ways xs (rs ++ [r]) (W.flatMap (ext xs s)) = (ways xs rs (W.flatMap (ext xs s))).flatMap (ext xs r)
    exact ways_snoc
theorem ways_len {xs rs : List Row} (hx : xs.length ≤ 6) : ∀ (i : Nat), (ways xs (rs.take i) [[]]).length ≤ 6 ^ i := by
  intro i
  induction i with
  | zero => simp [ways]
  | succ i ih =>
    by_cases h : i < rs.length
    · rw [List.take_succ_eq_append_getElem h, ways_snoc]
      have := step_len (xs := xs) (r := rs[i]) (ways xs (rs.take i) [[]])
      calc _ ≤ xs.length * (ways xs (rs.take i) [[]]).length := this
        _ ≤ 6 * 6 ^ i := Nat.mul_le_mul hx ih
        _ = 6 ^ (i + 1) := by rw [Nat.pow_succ]; omega
    · rw [List.take_of_length_le (by omega)]
      rw [List.take_of_length_le (by omega)] at ih
      have : 6 ^ i ≤ 6 ^ (i + 1) := Nat.pow_le_pow_right (by omega) (by omega)
      omega
def extN (xs : List Row) (r : Row) (w : List Nat) (i : Nat) : List (List Nat) := ((List.range' (lo w) i).filter fun k => decide (xs[k]? = some r)).map fun k => w ++ [k]
theorem extN_succ {xs : List Row} {r : Row} {w : List Nat} {i : Nat} : extN xs r w (i + 1) = extN xs r w i ++ if xs[lo w + i]? = some r then [w ++ [lo w + i]] else [] := by
  unfold extN
  rw [List.range'_1_concat, List.filter_append, List.map_append]
  by_cases h : xs[lo w + i]? = some r
  · rw [if_pos h]
    simp [h]
  · rw [if_neg h]
    simp [h]
theorem ext_N (xs : List Row) (r : Row) (w : List Nat) : ext xs r w = extN xs r w (xs.length - lo w) := rfl
theorem extN_len {xs : List Row} {r : Row} {w : List Nat} {i : Nat} : (extN xs r w i).length ≤ i := by
  unfold extN
  rw [List.length_map]
  exact Nat.le_trans (List.length_filter_le _ _) (by rw [List.length_range']; exact Nat.le_refl _)
theorem wy_self {xs : List Row} : ∀ (n a : Nat), a + n = xs.length → Wy xs (xs.drop a) a (List.range' a n)
  | 0, a, h => by
    rw [List.drop_of_length_le (by omega)]
    trivial
  | n + 1, a, h => by
    rw [List.drop_eq_getElem_cons (by omega), List.range'_succ]
    exact ⟨Nat.le_refl _, List.getElem?_eq_getElem (by omega), wy_self n (a + 1) (by omega)⟩
theorem gr_self {xs : List Row} {o : Option (List Nat)} (h : Gr xs xs 0 o) : o.isSome = true := by
  have g := gr_ways h
  cases o with
  | none => exact absurd (wy_self (xs := xs) xs.length 0 (by omega)) (g _)
  | some ps => rfl
theorem gr_nil {xs : List Row} {o : Option (List Nat)} {a : Nat} (h : Gr xs [] a o) : o = some [] := by
  cases h
  rfl
theorem paired_take {α β : Type} {R : α → β → Prop} : ∀ {l : List α} {m : List β} (n : Nat), Paired R l m → Paired R (l.take n) (m.take n)
  | _, _, 0, _ => by simp only [List.take_zero]; exact .nil
  | _, _, n + 1, .nil => .nil
  | _, _, n + 1, .cons z zs => .cons z (paired_take n zs)
theorem paired_drop {α β : Type} {R : α → β → Prop} : ∀ {l : List α} {m : List β} (n : Nat), Paired R l m → Paired R (l.drop n) (m.drop n)
  | _, _, 0, h => h
  | _, _, n + 1, .nil => .nil
  | _, _, n + 1, .cons z zs => paired_drop n zs
end Ag
namespace Ag
open PySem PySem.Spec PySem.W PyProof.Rows L2
theorem wy_lt {xs : List Row} : ∀ {rs : List Row} {a : Nat} {w : List Nat}, Wy xs rs a w → ∀ k ∈ w, k < xs.length
  | [], a, [], _, k, hk => by cases hk
  | [], a, _ :: _, h, k, hk => h.elim
  | r :: rs, a, [], h, k, hk => by cases hk
  | r :: rs, a, k' :: w, h, k, hk => by
    rcases List.mem_cons.mp hk with rfl | hk
    · exact (List.getElem?_eq_some_iff.mp h.2.1).1
    · exact wy_lt h.2.2 k hk
theorem ways_lo {xs rs : List Row} {w : List Nat} (h : w ∈ ways xs rs [[]]) : lo w ≤ xs.length := by
  obtain ⟨u, hu, t, rfl, ht⟩ := mem_ways.mp h
  rw [List.mem_singleton] at hu
  subst hu
  rw [List.nil_append]
  unfold lo
  split
  · omega
  · next k e => exact wy_lt ht k (List.mem_of_getLast? e)
theorem lo_at {w : List Nat} (h : w ≠ []) : ∃ k, w[w.length - 1]? = some k ∧ lo w = k + 1 := by
  unfold lo
  rw [List.getLast?_eq_getElem?]
  cases e : w[w.length - 1]? with
  | none =>
    rw [List.getElem?_eq_none_iff] at e
    have : 0 < w.length := List.length_pos_iff.mpr h
    omega
  | some k => exact ⟨k, rfl, rfl⟩
theorem flat_take {α β : Type} {f : α → List β} {l : List α} {i : Nat} {x : α} (h : l[i]? = some x) : (l.take (i + 1)).flatMap f = (l.take i).flatMap f ++ f x := by
  obtain ⟨hi, e⟩ := List.getElem?_eq_some_iff.mp h
  rw [List.take_succ_eq_append_getElem hi, List.flatMap_append, e]
  simp
end Ag
namespace Ag
open PySem PySem.Spec PySem.W PyProof.Rows L2
theorem wy_len {xs : List Row} : ∀ {rs : List Row} {a : Nat} {w : List Nat}, Wy xs rs a w → w.length = rs.length
  | [], a, [], _ => rfl
  | [], a, _ :: _, h => h.elim
  | r :: rs, a, [], h => h.elim
  | r :: rs, a, k' :: w, h => by
    rw [List.length_cons, List.length_cons, wy_len h.2.2]
theorem ways_wl {xs rs : List Row} {w : List Nat} (h : w ∈ ways xs rs [[]]) : w.length = rs.length := by
  obtain ⟨u, hu, t, rfl, ht⟩ := mem_ways.mp h
  rw [List.mem_singleton] at hu
  subst hu
  rw [List.nil_append]
  exact wy_len ht
end Ag
namespace Ag
open PySem PySem.Spec PySem.W PyProof.Rows L2
theorem gr_fun {xs rs : List Row} {o o' : Option (List Nat)} (h : Gr xs rs 0 o) (h' : Gr xs rs 0 o') : o = o' := by
  have g := gr_min h
  have g' := gr_min h'
  cases o with
  | none =>
    cases o' with
    | none => rfl
    | some ps =>
      have e : ways xs rs [[]] = [] := g
      rw [e] at g'
      cases g'.1
  | some ps =>
    cases o' with
    | none =>
      have e : ways xs rs [[]] = [] := g'
      rw [e] at g
      cases g.1
    | some ps' =>
      have := listLt_anti (g'.2 ps g.1) (g.2 ps' g'.1)
      rw [zs_inj this]
def dd : Option (List Nat) → PyData
  | none => .none
  | some ps => dW ps
theorem dd_some {K : PySem.W.Frag} {H : Hp} {v : V} : ∀ {o : Option (List Nat)}, Dp K H v (dd o) → (!decide (v = .non)) = o.isSome
  | none, h => by
    cases h
    rfl
  | some ps, h => by
    cases h
    rfl
theorem dd_of {K : PySem.W.Frag} {H : Hp} {v : V} : ∀ {o : Option (List Nat)}, (match o with | none => v = .non | some ps => ∃ p, v = .ref p ∧ H p = some (.lst (ps.map fun n : Nat => V.int (n : Int)))) → Dp K H v (dd o)
  | none, h => by
    cases h
    exact .non
  | some ps, h => WP.dp h
theorem oka_dd {xs rs : List Row} {o : Option (List Nat)} (h : Gr xs rs 0 o) (hl : rs.length ≤ 40) : oka 5 (dd o) = true := by
  cases o with
  | none => rfl
  | some ps =>
    have l := ways_wl (gr_min h).1
    show (decide (((zs_ ps).map PyData.int).length ≤ 1000) && ((zs_ ps).map PyData.int).all (oka 4)) = true
    rw [Bool.and_eq_true]
    refine ⟨decide_eq_true (by rw [List.length_map]; unfold zs_; rw [List.length_map]; omega), ?_⟩
    rw [List.all_eq_true]
    intro x hx
    obtain ⟨z, _, rfl⟩ := List.mem_map.mp hx
    rfl
theorem made0 {H : Hp} {x dx C : Addr} (n1 : H x = none) (n2 : H dx = none) : Same H (upd (upd H dx (.own x)) x (.ins C dx [])) := fun c o e => by
  rw [upd_ne (ne_of_none e n1), upd_ne (ne_of_none e n2)]
  exact e
theorem made1 {H H2 : Hp} {x dx C : Addr} (n1 : H x = none) (n2 : H dx = none) (k : Kp x (upd (upd H dx (.own x)) x (.ins C dx [])) H2) : Same H H2 := fun c o e => k c o (made0 n1 n2 c o e) (ne_of_none e n1)
end Ag

namespace Ag
open PySem PySem.Spec PyProof.Rows L2
/-! ### a own operator on two instances of one class -/
theorem op_own {X : Cx} {CX : CXT} {k : Nat} {C g : Addr} {fd : FuncData} {ps : List Str} {sp : Sp} {E : XK} {op : Operator} (c : PySem.W.selfFirst X.K C = true) (hs : PySem.W.findIn X.K (.ref C) (PySem.dunder op.info.2) = some (some (.ref g))) (hf : PySem.W.isFn X.K (.ref g) = true)
    (F : FnOk X.prog X.w X.K X.mg X.base CX k g fd ps sp) (hr : Room k X.A) (hb : Binds X.K fd ps []) (hx : Passes CX X E) :
    OpR X (binaryOp op) (fun x y H Q => ∃ a b dx dy fs gs, x = .ref a ∧ y = .ref b ∧ H a = some (.ins C dx fs) ∧ H b = some (.ins C dy gs) ∧ sp [.ref a, .ref b] H Q E) := by
  rintro pins s σ H x y v u Q I rx ry ⟨a, b, dx, dy, fs, gs, rfl, rfl, ea, eb, q⟩
  cases rx
  cases ry
  obtain ⟨mA, O, _⟩ := ins_get I.hok ea
  obtain ⟨od, J, _⟩ := O.look
  obtain ⟨mB, O', _⟩ := ins_get I.hok eb
  obtain ⟨od', J', _⟩ := O'.look
  obtain ⟨m, hF⟩ := I.fr
  refine PySem.W.binop_K hF I.ok.mod.kin J J'.type c hs hf ?_
  exact thn (run_fn (us := [.ref a, .ref b]) (vs := [.ref a, .ref b]) F hr hb .nil hx I (.cons rfl (.cons rfl .nil)) q) fun v s' ⟨z, H', I', r, q'⟩ => SlX.cmpback r ⟨z, H', I', r, q'⟩
end Ag
namespace Ag
open PySem PySem.Spec PyProof.Rows L2
theorem catA_of {K : PySem.W.Frag} {H : Hp} {a b : Addr} {xs ys : List V} {Q : VK} (ha : SqT K H a xs) (hb : SqT K H b ys) (hz : xs.length + ys.length ≤ sizeLine) (h : ∀ p H', Same H H' → SqT K H' p (xs ++ ys) → Q (.ref p) H') : rCatA K (.ref a) (.ref b) H Q := by
  refine ⟨a, b, xs, ys, rfl, rfl, ha, hb, hz, fun e => ?_, fun e1 e2 => ?_, fun e1 e2 p np => ?_⟩
  · subst e
    exact h b H (.refl H) hb
  · subst e2
    exact h a H (.refl H) (by rw [List.append_nil]; exact ha)
  · exact h p _ (same_new np _) (SqT.of upd_same)
end Ag
namespace Ag
open PySem PySem.Spec PyProof.Rows L2
theorem slA_of {K : PySem.W.Frag} {H : Hp} {a : Addr} {xs zs : List V} {lo hi : Option Int} {Q : VK} (ha : SqT K H a xs) (e : cutV xs lo hi = zs) (h : ∀ p H', Same H H' → SqT K H' p zs → Q (.ref p) H') : rSlA K (.ref a) lo hi H Q := by
  refine ⟨a, xs, rfl, ha, fun w => ?_, fun w p np => ?_⟩
  · refine h a H (.refl H) ?_
    rw [← e]
    unfold cutV
    rw [w.1, w.2, List.drop_zero, Nat.sub_zero, List.take_length]
    exact ha
  · refine h p _ (same_new np _) ?_
    rw [← e]
    exact SqT.of upd_same
theorem cut_to {xs : List V} {n : Nat} (h : n ≤ xs.length) : cutV xs none (some (n : Int)) = xs.take n := by
  unfold cutV
  rw [HT.sIx_none, HT.sIx_nat, List.drop_zero, Nat.sub_zero, Nat.min_eq_left h]
theorem cut_from {xs : List V} {n : Nat} (h : n ≤ xs.length) : cutV xs (some (n : Int)) none = xs.drop n := by
  unfold cutV
  rw [HT.sIx_none, HT.sIx_nat, Nat.min_eq_left h]
  exact List.take_of_length_le (by rw [List.length_drop]; omega)
end Ag
namespace Ag
open PySem PySem.Spec PyProof.Rows L2
/-! ### what is left without some places -/
def keepV (ys : List V) (ps : List Nat) (i : Nat) : List V := ((List.range i).filter fun k => decide (k ∉ ps)).filterMap fun k => ys[k]?
theorem keepV_succ {ys : List V} {ps : List Nat} {i : Nat} {v : V} (h : ys[i]? = some v) : keepV ys ps (i + 1) = keepV ys ps i ++ if i ∈ ps then [] else [v] := by
  unfold keepV
  rw [List.range_succ, List.filter_append, List.filterMap_append]
  by_cases hp : i ∈ ps
  · rw [if_pos hp]
    simp [hp]
  · rw [if_neg hp]
    simp [hp, h]
theorem keepV_len {ys : List V} {ps : List Nat} {i : Nat} : (keepV ys ps i).length ≤ i := by
  unfold keepV
  refine Nat.le_trans (List.length_filterMap_le _ _) ?_
  refine Nat.le_trans (List.length_filter_le _ _) ?_
  rw [List.length_range]
  exact Nat.le_refl _
theorem inV_ints (k : Nat) : ∀ ps : List Nat, inV (.int (k : Int)) (ps.map fun n : Nat => V.int (n : Int)) = decide (k ∈ ps)
  | [] => by simp [inV]
  | p :: ps => by
    have ih := inV_ints k ps
    unfold inV at ih ⊢
    rw [List.map_cons, List.any_cons, ih]
    have e : eqV (.int (p : Int)) (.int (k : Int)) = decide (p = k) := by
      show ((p : Int) == (k : Int)) = decide (p = k)
      rw [Bool.eq_iff_iff, beq_iff_eq, decide_eq_true_eq]
      omega
    rw [e]
    by_cases h : p = k
    · simp [h]
    · simp [h, Ne.symm h]
theorem flat_ints (ps : List Nat) : (ps.map fun n : Nat => V.int (n : Int)).all flatV = true := by
  rw [List.all_eq_true]
  intro x hx
  obtain ⟨n, _, rfl⟩ := List.mem_map.mp hx
  rfl
end Ag
namespace Ag
open PySem PySem.Spec PyProof.Rows L2
/-- a method with *pv behind self -/
theorem fun_star {P : Program} {w : World} {K : PySem.W.Frag} {mg : Str → Option Value} {base : Heap} {x qual pv : Str} {st : Stmt} {f : Addr} {fd : FuncData} {N : List Str} {k : Nat} {sp : Sp} (F : Fun K x qual st f fd) (S : FnScope N ((["self"] : List Str) ++ [pv]) (defScope st))
    (hb : ∀ (kV doc pm : Value) (an : Option Addr) (cdv ct : Value) (us rest : List Value), us.length = (["self"] : List Str).length → bindArgs (PySem.W.fnOf x qual (defArgs st) (defBody st) (defScope st) .none kV doc pm an cdv ct) ⟨us ++ rest, []⟩ = (newTuple rest >>= fun t => pure ((["self"] : List Str).zip us ++ [(pv, t)])))
    (hbody : ∀ (cdv : Value) (A : Around) (outer : List Env) (s : Shared) (H : Hp) (vs : List V) (Q : VK) (E : XK), Room k (A.deeper (envOfC qual (defScope st) s.heap.objs.size f cdv)) → sp vs H Q E →
      ∃ t, PSs (cxOf CX0 P w K mg base N qual (defScope st) f cdv A outer s H E).nox (defBody st) t ∧ t { nx := fun _ H' => Q .non H', rt := Q } (start N vs) H) :
    FnR P w K mg base CX0 (k + 1) f (fun vs H Q E => ∃ ws rest, vs = ws ++ rest ∧ ws.length = 1 ∧ rest.length ≤ sizeLine ∧ ∀ p, H p = Option.none → sp (ws ++ [V.ref p]) (upd H p (.tup rest)) Q E) := by
  obtain ⟨oc, od, kV, doc, pm, an, cdv, ct, osl, rfl, lk, hcd⟩ := F.ex
  refine StX.fn_star (ps := (["self"] : List Str)) (pv := pv) lk hcd S StX.cxUp_none (hb kV doc pm an cdv ct) fun A outer s H vs Q E hr hsp => ?_
  obtain ⟨t, h, q⟩ := hbody cdv A outer s H vs Q E hr hsp
  exact ⟨t, h.nox, q⟩
end Ag
namespace Ag
open PySem PySem.Spec PyProof.Rows L2
theorem HeldAt.kp {C : Addr} {H H' : Hp} {b l x a : Addr} (k : Kp b H H') (g : Bag H b l) (h : HeldAt C H x a) : HeldAt C H' x a := by
  obtain ⟨dx, e⟩ := h
  obtain ⟨ns, at', big, seed, cnt, h1, _⟩ := g
  exact ⟨dx, k _ _ e (ne_of e h1 (by intro z; cases z))⟩
/-- rows as data -/
theorem rows_da {K : PySem.W.Frag} {H : Hp} : ∀ {vs : List V} {rs : List Row}, RowsAt K H vs rs → DaAll K H vs (rs.map rowD)
  | _, _, .nil => .nil
  | _, _, .cons z zs => .cons (Da_of z) (rows_da zs)
theorem rowsL_da {K : PySem.W.Frag} {H : Hp} {p : Addr} {vs : List V} {rs : List Row} (h : SqL K H p vs) (r : RowsAt K H vs rs) : Da K H (.ref p) (.list (rs.map rowD)) := .lst h (rows_da r)
theorem oka_row {ns ws : List (List Nat)} {r : Row} (n : Nat) (h : r.1 ∈ ns ∧ okF ws [] 3 r.2) : oka (n + 6) (rowD r) = true := by
  show (decide (2 ≤ 1000) && (oka (n + 5) (.str (SX.S r.1)) && (oka (n + 5) r.2.dat && true))) = true
  have e := okF_oka (n := n + 4) h.2 (by omega)
  rw [e]
  rfl
theorem oka_rows {ns ws : List (List Nat)} {rs : List Row} (n : Nat) (hl : rs.length ≤ 1000) (h : ∀ r ∈ rs, r.1 ∈ ns ∧ okF ws [] 3 r.2) : oka (n + 7) (.list (rs.map rowD)) = true := by
  show (decide ((rs.map rowD).length ≤ 1000) && (rs.map rowD).all (oka (n + 6))) = true
  rw [Bool.and_eq_true, List.all_eq_true]
  refine ⟨decide_eq_true (by rw [List.length_map]; exact hl), fun x hx => ?_⟩
  obtain ⟨r, hr, rfl⟩ := List.mem_map.mp hx
  exact oka_row n (h r hr)
end Ag

namespace Ag
open PySem PySem.Spec PyProof.Rows L2
def top (i : Nat) : Stmt := PySem.Challenge.pw_addedgrounds_k13_contexts_changed.main.body.getD i (.Pass ⟨0, 0, 0, 0⟩)
abbrev s_wall : Stmt := top 0
abbrev s_is_number : Stmt := top 3
abbrev s_copied : Stmt := top 4
abbrev s_GroundError : Stmt := top 6
abbrev s_InvalidNumber : Stmt := top 7
abbrev s_InvalidNumber_init : Stmt := inClass (top 7) 0
abbrev s_InvalidRow : Stmt := top 8
abbrev s_InvalidRow_init : Stmt := inClass (top 8) 0
abbrev s_InvalidText : Stmt := top 9
abbrev s_InvalidText_init : Stmt := inClass (top 9) 0
abbrev s_TooMany : Stmt := top 10
abbrev s_TooMany_init : Stmt := inClass (top 10) 0
abbrev s_is_letter : Stmt := top 18
abbrev s_is_name : Stmt := top 19
abbrev s_is_formula : Stmt := top 20
abbrev s_is_built : Stmt := top 21
abbrev s_is_leaf : Stmt := top 22
abbrev s_text_of : Stmt := top 23
abbrev s_parsed : Stmt := top 24
abbrev s_parsed_at : Stmt := top 25
abbrev s_parsed_joint : Stmt := top 26
abbrev s_parsed_hole : Stmt := top 27
abbrev s_parsed_atom : Stmt := top 28
abbrev s_KnownRows : Stmt := top 30
abbrev s_KnownRows_init : Stmt := inClass (top 30) 0
abbrev s_Context : Stmt := top 31
abbrev s_Context_init : Stmt := inClass (top 31) 1
abbrev s_Context_of : Stmt := inClass (top 31) 2
abbrev s_Context_read : Stmt := inClass (top 31) 3
abbrev s_Context_rows : Stmt := inClass (top 31) 4
abbrev s_Context_names : Stmt := inClass (top 31) 5
abbrev s_Context_words : Stmt := inClass (top 31) 6
abbrev s_Context_text : Stmt := inClass (top 31) 7
abbrev s_Context_with_row : Stmt := inClass (top 31) 8
abbrev s_Context_without : Stmt := inClass (top 31) 9
abbrev s_Context_places_of : Stmt := inClass (top 31) 10
abbrev s_Context_is_wider : Stmt := inClass (top 31) 11
abbrev s_Context_add : Stmt := inClass (top 31) 12
abbrev s_Context_contains : Stmt := inClass (top 31) 13
abbrev s_Context_len : Stmt := inClass (top 31) 14
abbrev s_Context_eq : Stmt := inClass (top 31) 15
abbrev s_Context_repr : Stmt := inClass (top 31) 16
abbrev s_is_row : Stmt := top 32
abbrev s_tested_rows : Stmt := top 33
abbrev s_is_place : Stmt := top 34
abbrev s_row_text : Stmt := top 35
abbrev s_read_rows : Stmt := top 36
abbrev s_read_row : Stmt := top 37
abbrev s_law_bag : Stmt := top 39
abbrev s_law_pull : Stmt := top 40
abbrev s_law_any : Stmt := top 41
abbrev s_law_like : Stmt := top 42
abbrev s_law_names : Stmt := top 43
abbrev s_law_form : Stmt := top 44
abbrev s_law_rows : Stmt := top 45
abbrev s_law : Stmt := top 46
end Ag
namespace Ag
open PySem PySem.Spec PyProof.Rows L2
section
variable {P : Program} {w : World} {K : PySem.W.Frag} {mg : Str → Option Value} {base : Heap}
/-! ### _law_bag -/
def spBag (K : PySem.W.Frag) : Sp := fun vs H Q _ => ∃ (a : Addr) (ns : List Int), vs = [.ref a] ∧ SqL K H a (ns.map V.int) ∧ ns.length ≤ 63 ∧
  ∀ (b l : Addr) (H' : Hp), H b = none → Same H H' → Bag H' b l → Q (.ref b) H'
theorem scBag : FnScope ["_law_script"] ["_law_script"] (defScope s_law_bag) := ⟨rfl, rfl, rfl, by decide +kernel, rfl, by decide +kernel, by decide +kernel⟩
theorem ok_bag {f : Addr} {fd : FuncData} (F : Fun K "_law_bag" "_law_bag" s_law_bag f fd) (ml : mg "list" = none) : FnOk P w K mg base CX0 1 f fd ["_law_script"] (spBag K) := by
  refine F.ok scBag (fun vs H Q E h => ?_) (fun cdv A outer s H vs Q E hr h => ?_)
  · obtain ⟨a, ns, rfl, _⟩ := h
    rfl
  obtain ⟨a, ns, rfl, hS, h63, q⟩ := h
  refine ⟨_, pss_one (ps_ret (pe_lst (pa_cons (pe_callTy call_list_of (by rfl) ml (by decide +kernel) (pa_cons (pe_slice sl_list (pv 0) po_none (po_some pe_int)) pa_nil))
    (pa_cons pe_int (pa_cons pe_int (pa_cons pe_int (pa_cons pe_int pa_nil))))))), ?_⟩
  refine ⟨_, rfl, _, rfl, a, _, rfl, hS, fun p np => ?_⟩
  have ec : cutV (ns.map V.int) none (some 63) = ns.map V.int := by
    unfold cutV
    have e1 : HT.sIx (ns.map V.int).length 0 none = 0 := rfl
    have e2 : HT.sIx (ns.map V.int).length (ns.map V.int).length (some 63) = (ns.map V.int).length := by
      rw [List.length_map]
      unfold HT.sIx
      simp
      omega
    rw [e1, e2, List.drop_zero, List.take_of_length_le (by omega)]
  rw [ec]
  refine ⟨p, _, rfl, .inl (SqL.of upd_same), fun l nl => ?_⟩
  have npl : p ≠ l := ne_of_none upd_same nl
  have nHl : H l = none := (same_new np _).free nl
  refine ⟨(by show 5 ≤ sizeLine; decide), fun b nb => ?_⟩
  have nlb : l ≠ b := ne_of_none upd_same nb
  have s1 := (same_new np (.lst (ns.map V.int))).trans (same_new nl (.lst (ns.map V.int)))
  refine q b l _ (s1.free nb) (s1.trans (same_new nb _)) ⟨ns, 0, 0, 4932, 0, upd_same, ?_, nlb, h63, by decide, by decide, by decide⟩
  rw [upd_ne nlb, upd_same]
end

section
variable {P : Program} {w : World} {K : PySem.W.Frag} {mg : Str → Option Value} {base : Heap}
/-! ### _law_pull -/
def spPull : Sp := fun vs H Q _ => ∃ (b l : Addr) (m : Int), vs = [.ref b, .int m] ∧ Bag H b l ∧ 0 < m ∧ m < 2 ^ 62 ∧
  ∀ (d : Int) (H' : Hp), 0 ≤ d → d < m → Kp b H H' → Bag H' b l → Q (.int d) H'
theorem scPull : FnScope ["_law_bag_here", "_law_many", "_law_cell", "_law_digit", "_law_seed"] ["_law_bag_here", "_law_many"] (defScope s_law_pull) := ⟨rfl, rfl, rfl, by decide +kernel, rfl, by decide +kernel, by decide +kernel⟩
theorem ok_pull {f : Addr} {fd : FuncData} (F : Fun K "_law_pull" "_law_pull" s_law_pull f fd) (ml : mg "len" = none) (mi : mg "int" = none) : FnOk P w K mg base CX0 1 f fd ["_law_bag_here", "_law_many"] spPull := by
  refine F.ok scPull (fun vs H Q E h => ?_) (fun cdv A outer s H vs Q E hr h => ?_)
  · obtain ⟨b, l, m, rfl, _⟩ := h
    rfl
  obtain ⟨b, l, m, rfl, hB, hm, hm', q⟩ := h
  have nd := scPull.nd
  refine ⟨_, pss_cons (ps_if (PW.pt (pw_and (pt_cmpR op_eq (pe_ix ix_list (pv 0) pe_int (fun _ _ => rfl)) pe_int (nomark _)) (pw_and1 (pt_cmpR op_lt (pe_ix ix_list (pv 0) pe_int (fun _ _ => rfl)) (pe_callB call_len_seq (by rfl) ml boot_len (pa_cons (pe_ix ix_list (pv 0) pe_int (fun _ _ => rfl)) pa_nil)) (nomark _)))))
      (pss_cons (ps_set (i := 2) nd rfl (.inl rfl) (pe_ix ix_list (pe_ix ix_list (pv 0) pe_int (fun _ _ => rfl)) (pe_ix ix_list (pv 0) pe_int (fun _ _ => rfl)) (fun _ _ => rfl)))
      (pss_cons (ps_asg (pe_op op_add (pe_ix ix_list (pv 0) pe_int (fun _ _ => rfl)) pe_int) (pg_sub (pv 0) pe_int set_list))
      (pss_one (ps_if (pt_cmpR op_ge (pv 2) (pe_op op_pow pe_int pe_int) (nomark _))
        (pss_one (ps_asg (pv 2) (pg_sub (pv 0) pe_int set_list)))
        (pss_one (ps_asg (pe_op op_modN (pe_callTy call_int1 (by rfl) mi (by decide +kernel) (pa_cons (pe_op op_add (pe_op op_add (pe_op op_mul (pe_ix ix_list (pv 0) pe_int (fun _ _ => rfl)) pe_int) (pe_op op_mul (pe_op op_modN (pe_callTy call_int1 (by rfl) mi (by decide +kernel) (pa_cons (pv 2) pa_nil)) pe_int) pe_int)) pe_int) pa_nil)) pe_int) (pg_sub (pv 0) pe_int set_list))))))) pss_nil)
    (pss_cons (ps_if (pt_cmpR op_gt (pe_ix ix_list (pv 0) pe_int (fun _ _ => rfl)) pe_int (nomark _))
      (pss_cons (ps_set (i := 3) nd rfl (.inl rfl) (pe_op op_modN (pe_callTy call_int1 (by rfl) mi (by decide +kernel) (pa_cons (pe_ix ix_list (pv 0) pe_int (fun _ _ => rfl)) pa_nil)) (pv 1)))
      (pss_cons (ps_asg (pe_op op_fdivW (pe_ix ix_list (pv 0) pe_int (fun _ _ => rfl)) (pv 1)) (pg_sub (pv 0) pe_int set_list))
      (pss_one (ps_ret (pv 3))))) pss_nil)
    (pss_cons (ps_asg (pe_op op_add (pe_ix ix_list (pv 0) pe_int (fun _ _ => rfl)) pe_int) (pg_sub (pv 0) pe_int set_list))
    (pss_cons (ps_set (i := 4) nd rfl (.inl rfl) (pe_ix ix_list (pv 0) pe_int (fun _ _ => rfl)))
    (pss_cons (ps_asg (pe_op op_modN (pe_callTy call_int1 (by rfl) mi (by decide +kernel) (pa_cons (pe_op op_add (pe_op op_add (pe_op op_add (pe_op op_mul (pe_op op_mul (pv 4) (pv 4)) pe_int) (pe_op op_mul (pv 4) pe_int)) (pe_op op_mul (pe_ix ix_list (pv 0) pe_int (fun _ _ => rfl)) pe_int)) pe_int) pa_nil)) pe_int) (pg_sub (pv 0) pe_int set_list))
    (pss_one (ps_ret (pe_op op_modN (pe_callTy call_int1 (by rfl) mi (by decide +kernel) (pa_cons (pe_op op_add (pe_op op_fdivN (pe_ix ix_list (pv 0) pe_int (fun _ _ => rfl)) pe_int) (pe_op op_mul (pe_op op_modN (pe_callTy call_int1 (by rfl) mi (by decide +kernel) (pa_cons (pe_ix ix_list (pv 0) pe_int (fun _ _ => rfl)) pa_nil)) pe_int) pe_int)) pa_nil)) (pv 1)))))))), ?_⟩
  refine tseq (fun σ' H' => ∃ cv : Option V, σ' = [some (.ref b), some (.int m), cv, none, none] ∧ Kp b H H' ∧ Bag H' b l) (fun σ' H1 hM => ?_) (fun tail => ?_)
  · obtain ⟨cv, rfl, k, ns, at', big, seed, cnt, h1, h2, hl, h63, hb, h0, h9⟩ := hM
    refine ⟨_, rfl, b, _, _, _, rfl, rfl, SqL.of h1, rfl, _, _, rfl, rfl, _, rfl, ?_⟩
    refine ite2 (fun c => ?_) (fun c => ?_)
    · refine ⟨_, rfl, b, _, _, _, rfl, rfl, SqL.of h1, rfl, .inl ⟨_, rfl, ?_⟩⟩
      refine ⟨_, rfl, _, _, rfl, rfl, (by omega), ?_⟩
      refine ⟨_, rfl, b, _, _, _, rfl, rfl, SqL.of h1, rfl, _, rfl, _, _, rfl, rfl, wide_div hm (b := 62) (by omega) (by decide) (by decide), ?_⟩
      refine ⟨_, rfl, b, _, _, _, rfl, rfl, h1, rfl, ?_⟩
      refine ⟨_, rfl, ?_⟩
      refine q _ _ (fm_in big hm).1 (fm_in big hm).2 (k.trans kp_upd) ⟨ns, at', big / m, seed, cnt, upd_same, ?_, hl, h63, Int.ediv_nonneg (by omega) (by omega), h0, h9⟩
      rw [upd_ne hl]; exact h2
    · refine ⟨_, rfl, b, _, _, _, rfl, rfl, SqL.of h1, rfl, _, _, rfl, rfl, _, rfl, b, _, _, _, rfl, rfl, h1, rfl, ?_⟩
      refine ⟨_, rfl, b, _, _, _, rfl, rfl, SqL.of upd_same, rfl, ?_⟩
      have cs : CMul seed seed := .inl ⟨by omega, by omega⟩
      have cr : ∀ i j : Int, -(2 ^ 64) < j ∧ j < 2 ^ 64 → CMul i j := fun i j h => .inr h
      refine ⟨_, rfl, _, rfl, _, _, rfl, rfl, cs, _, _, rfl, rfl, cr _ _ (by decide), _, rfl, _, _, rfl, rfl, cr _ _ (by decide), _, _, rfl, rfl,
        _, rfl, b, _, _, _, rfl, rfl, SqL.of upd_same, rfl, _, _, rfl, rfl, cr _ _ (by decide), _, _, rfl, rfl, _, _, rfl, rfl, .inl ⟨_, rfl, _, _, rfl, rfl, (by show (2147483629 : Int) ≠ 0; decide), ?_⟩⟩
      refine ⟨_, rfl, b, _, _, _, rfl, rfl, upd_same, rfl, ?_⟩
      have sd := fm_in (seed * seed * 3 + seed * 27011 + (cnt + 1) * 1299689 + 40507) (m := 2147483629) (by decide)
      refine ⟨_, rfl, b, _, _, _, rfl, rfl, SqL.of upd_same, rfl, _, _, rfl, rfl, ⟨by decide, by decide⟩, _, rfl, b, _, _, _, rfl, rfl, SqL.of upd_same, rfl, .inl ⟨_, rfl, _, _, rfl, rfl, (by show (7901 : Int) ≠ 0; decide), _, _, rfl, rfl, cr _ _ (by decide), _, _, rfl, rfl,
        .inl ⟨_, rfl, _, rfl, _, _, rfl, rfl, by omega, ?_⟩⟩⟩
      refine q _ _ (fm_in _ hm).1 (fm_in _ hm).2 (k.trans (kp_upd.trans kp_upd)) ⟨ns, at', big, _, cnt + 1, upd_same, ?_, hl, h63, hb, sd.1, sd.2⟩
      rw [upd_ne hl, upd_ne hl]; exact h2
  · obtain ⟨ns, at', big, seed, cnt, h1, h2, hl, h63, hb, h0, h9⟩ := hB
    refine ⟨_, rfl, b, _, _, _, rfl, rfl, SqL.of h1, rfl, rfl, _, rfl, ?_⟩
    refine ite2 (fun c => ?_) (fun c => ?_)
    · refine ⟨_, rfl, b, _, _, _, rfl, rfl, SqL.of h1, rfl, _, rfl, b, _, _, _, rfl, rfl, SqL.of h1, rfl, l, _, rfl, .inl (SqL.of h2), _, _, rfl, rfl, _, rfl, ?_⟩
      refine ite2 (fun c1 => ?_) (fun c1 => ?_)
      · have c2 : at' < (ns.map V.int).length := by have z := of_decide_eq_true c1; omega
        have c3 : at' < ns.length := by rw [List.length_map] at c2; exact c2
        have hv : atI (ns.map V.int) (at' : Int) = some (.int ns[at']) := atI_nat (by rw [List.getElem?_map, List.getElem?_eq_getElem c3]; rfl)
        refine ⟨_, rfl, b, _, _, _, rfl, rfl, SqL.of h1, rfl, _, rfl, b, _, _, _, rfl, rfl, SqL.of h1, rfl, l, _, _, _, rfl, rfl, SqL.of h2, hv, ?_⟩
        refine ⟨_, rfl, b, _, _, _, rfl, rfl, SqL.of h1, rfl, _, _, rfl, rfl, _, rfl, b, _, _, _, rfl, rfl, h1, rfl, ?_⟩
        refine ⟨_, rfl, _, _, rfl, rfl, ⟨by decide, by decide, by decide⟩, _, _, rfl, rfl, _, rfl, ?_⟩
        refine ite2 (fun c4 => ?_) (fun c4 => ?_)
        · have c5 : ns[at'] ≥ 10 ^ (18 : Int).toNat := of_decide_eq_true c4
          have c6 : (0 : Int) ≤ ns[at'] := by
            have z : (0 : Int) ≤ 10 ^ (18 : Int).toNat := by decide
            omega
          refine ⟨_, rfl, _, rfl, b, _, _, _, rfl, rfl, upd_same, rfl, ?_⟩
          refine tail _ _ ⟨_, rfl, kp_upd.trans kp_upd, ns, at' + 1, ns[at'], seed, cnt, upd_same, ?_, hl, h63, c6, h0, h9⟩
          rw [upd_ne hl, upd_ne hl]; exact h2
        · refine ⟨_, rfl, b, _, _, _, rfl, rfl, SqL.of upd_same, rfl, _, _, rfl, rfl, .inr ⟨by decide, by decide⟩, _, rfl, .inl ⟨_, rfl, _, _, rfl, rfl, (by show (2147483489 : Int) ≠ 0; decide), _, _, rfl, rfl, .inr ⟨by decide, by decide⟩, _, _, rfl, rfl, _, _, rfl, rfl,
            .inl ⟨_, rfl, _, _, rfl, rfl, (by show (2147483629 : Int) ≠ 0; decide), ?_⟩⟩⟩
          refine ⟨_, rfl, b, _, _, _, rfl, rfl, upd_same, rfl, ?_⟩
          have sd := fm_in (seed * 40009 + ns[at'].fmod 2147483489 * 30011 + 17) (m := 2147483629) (by decide)
          refine tail _ _ ⟨_, rfl, kp_upd.trans kp_upd, ns, at' + 1, big, _, cnt, upd_same, ?_, hl, h63, hb, sd.1, sd.2⟩
          rw [upd_ne hl, upd_ne hl]; exact h2
      · refine tail _ _ ⟨none, rfl, .refl _ _, ns, at', big, seed, cnt, h1, h2, hl, h63, hb, h0, h9⟩
    · exact tail _ _ ⟨none, rfl, .refl _ _, ns, at', big, seed, cnt, h1, h2, hl, h63, hb, h0, h9⟩
end

section
variable {P : Program} {w : World} {K : PySem.W.Frag} {mg : Str → Option Value} {base : Heap}
/-! ### _law_any -/
def spAny (K : PySem.W.Frag) : Sp := fun vs H Q _ => ∃ (b l : Addr) (x : V) (its : List V), vs = [.ref b, x] ∧ Bag H b l ∧ Itm K H b x its ∧ 0 < its.length ∧ its.length < 2 ^ 62 ∧
  ∀ (i : Nat) (v : V) (H' : Hp), its[i]? = some v → Kp b H H' → Bag H' b l → Q v H'
theorem scAny : FnScope ["_law_bag_here", "_law_things"] ["_law_bag_here", "_law_things"] (defScope s_law_any) := ⟨rfl, rfl, rfl, by decide +kernel, rfl, by decide +kernel, by decide +kernel⟩
theorem ok_any {f : Addr} {fd : FuncData} (F : Fun K "_law_any" "_law_any" s_law_any f fd) (cP : C8.Cal P w K mg base 1 "_law_pull" spPull []) (ml : mg "len" = none) :
    FnOk P w K mg base CX0 2 f fd ["_law_bag_here", "_law_things"] (spAny K) := by
  refine F.ok scAny (fun vs H Q E h => ?_) (fun cdv A outer s H vs Q E hr h => ?_)
  · obtain ⟨b, l, x, its, rfl, _⟩ := h
    rfl
  obtain ⟨b, l, x, its, rfl, hB, hI, h0, h1, q⟩ := h
  refine ⟨_, pss_one (ps_ret (pe_ix ix_seq (pv 1) (C8.pe_c cP hr (by decide) (by rfl) (pa_cons (pv 0) (pa_cons (pe_callB call_len (by rfl) ml boot_len (pa_cons (pv 1) pa_nil)) pa_nil))) (fun _ _ => rfl))), ?_⟩
  rcases hI with ⟨z, rfl, hz, rfl⟩ | ⟨a, rfl, hab, hs⟩
  · have el : z.length = z.cps.toList.length := by simp [Str.length]
    rw [List.length_map] at h0 h1
    refine ⟨_, rfl, _, rfl, _, rfl, _, z.length, rfl, ⟨hz, rfl⟩, b, l, _, rfl, hB, by omega, by omega, fun d H' hd0 hd1 k hB' => ?_⟩
    have hd : d.toNat < z.cps.toList.length := by omega
    have hat : atI z.cps.toList d = some z.cps.toList[d.toNat] := at_any (by omega) (List.getElem?_eq_getElem hd)
    refine .inr (.inr ⟨z, d, _, rfl, rfl, hz, hat, ?_⟩)
    refine q d.toNat _ H' ?_ k hB'
    rw [List.getElem?_map, List.getElem?_eq_getElem hd]
    rfl
  · have hl : LenV K (.ref a) H its.length := by
      rcases hs with hs | hs
      · exact .inl ⟨_, hs, rfl⟩
      · exact .inr ⟨_, hs, rfl⟩
    refine ⟨_, rfl, _, rfl, _, rfl, _, its.length, rfl, hl, b, l, _, rfl, hB, by omega, by omega, fun d H' hd0 hd1 k hB' => ?_⟩
    have hd : d.toNat < its.length := by omega
    have hg : its[d.toNat]? = some its[d.toNat] := List.getElem?_eq_getElem hd
    have hat : atI its d = some its[d.toNat] := at_of (by omega) hg
    rcases hs with hs | hs
    · exact .inl ⟨a, _, d, _, rfl, rfl, k.seqL hab hs, hat, q _ _ _ hg k hB'⟩
    · exact .inr (.inl ⟨a, _, d, _, rfl, rfl, k.seqT hab hs, hat, q _ _ _ hg k hB'⟩)

end

section
variable {P : Program} {w : World} {K : PySem.W.Frag} {mg : Str → Option Value} {base : Heap}
/-! ### _law_names -/
def spNames : Sp := fun vs H Q _ => ∃ (b l : Addr) (m : Nat), vs = [.ref b, .int (m : Int)] ∧ Bag H b l ∧ m ≤ 1000 ∧
  ∀ (r : Addr) (ws : List (List Nat)) (H' : Hp), Nms m ws → H r = none → Kp b H H' → Bag H' b l → H' r = some (.lst (ws.map fun w => V.str (SX.S w))) → Q (.ref r) H'
theorem scNames : FnScope ["_law_bag_here", "_law_many", "_law_letters", "_law_k", "_law_stem", "_law_at_z", "_law_first"] ["_law_bag_here", "_law_many"] (defScope s_law_names) := ⟨rfl, rfl, rfl, by decide +kernel, rfl, by decide +kernel, by decide +kernel⟩
theorem ok_names {f : Addr} {fd : FuncData} (F : Fun K "_law_names" "_law_names" s_law_names f fd) (cP : C8.Cal P w K mg base 1 "_law_pull" spPull []) (cA : C8.Cal P w K mg base 2 "_law_any" (spAny K) []) (M : NamesM mg) : FnOk P w K mg base CX0 3 f fd ["_law_bag_here", "_law_many"] spNames := by
  refine F.ok scNames (fun vs H Q E h => ?_) (fun cdv A outer s H vs Q E hr h => ?_)
  · obtain ⟨b, l, m, rfl, _⟩ := h
    rfl
  obtain ⟨b, l, m, rfl, hB, hm, q⟩ := h
  have nd := scNames.nd
  refine ⟨_, pss_cons (ps_set (i := 2) nd rfl (.inr rfl) pe_str)
    (pss_cons (ps_set (i := 4) nd rfl (.inr rfl) (pe_join pe_str (pe_lc (own := [("_law_k", 3)]) (g := gName 3) (tt := tYes) rfl nd (pi_range1 (by rfl) M.range (pa_cons (C8.pe_c cP hr (by decide) (by rfl) (pa_cons (pv 0) (pa_cons pe_int pa_nil))) pa_nil))
      (blkOk_by (own := [("_law_k", 3)]) (N := ["_law_bag_here", "_law_many", "_law_letters", "_law_k", "_law_stem", "_law_at_z", "_law_first"]) (sc := defScope s_law_names) (by decide +kernel)) (fun _ _ _ _ _ => pg_name (i := 3) nd rfl (Or.inl rfl)) (fun _ _ _ _ _ => pts_nil)
      (fun _ _ _ _ _ => C8.pe_c cA hr (by decide) (by rfl) (pa_cons (pv 0) (pa_cons (pv 2) pa_nil))))))
    (pss_cons (ps_asg (pe_tup (pa_cons (C8.pe_c cP hr (by decide) (by rfl) (pa_cons (pv 0) (pa_cons (pe_op op_add (pe_callB call_len (by rfl) M.len boot_len (pa_cons (pv 4) pa_nil)) pe_int) pa_nil))) (pa_cons (C8.pe_c cP hr (by decide) (by rfl) (pa_cons (pv 0) (pa_cons pe_int pa_nil))) pa_nil)))
      (pg_tup rfl (pgs_cons (pg_name (i := 5) nd rfl (.inr rfl)) (pgs_cons (pg_name (i := 6) nd rfl (.inr rfl)) pgs_nil))))
    (pss_one (ps_ret (pe_lc (own := [("_law_k", 3)]) (g := gName 3) (tt := tYes) rfl nd (pi_range1 (by rfl) M.range (pa_cons (pv 1) pa_nil))
      (blkOk_by (own := [("_law_k", 3)]) (N := ["_law_bag_here", "_law_many", "_law_letters", "_law_k", "_law_stem", "_law_at_z", "_law_first"]) (sc := defScope s_law_names) (by decide +kernel)) (fun _ _ _ _ _ => pg_name (i := 3) nd rfl (Or.inl rfl)) (fun _ _ _ _ _ => pts_nil)
      (fun _ _ _ _ _ => pe_op op_add_str (pe_op op_add_str (pe_slice C8.sl_txt (pv 4) po_none (po_some (pv 5))) (pe_ix ix_str (pv 2) (pe_op op_modN (pe_callTy call_int1 (by rfl) M.int (by decide +kernel) (pa_cons (pe_op op_add (pv 6) (pe_op op_mul pe_int (pv 3))) pa_nil)) pe_int) (fun _ _ => rfl))) (pe_slice C8.sl_txt (pv 4) (po_some (pv 5)) po_none))))))), ?_⟩
  -- the stem's length, its signs
  refine ⟨⟨_, rfl⟩, _, rfl, b, l, 5, rfl, hB, by decide, by decide, fun d H1 hd0 hd1 k1 B1 => ?_⟩
  refine ⟨d, rfl, by omega, by omega, fun D nD => ?_⟩
  have nDb := B1.new nD
  refine lc_range (lo := 0) (n := d.toNat) (fun i H' => ∃ cs : List Nat, Low cs ∧ cs.length = i ∧ Kp b H H' ∧ Bag H' b l ∧ H' D = some (.lst ((cs.map fun c => (⟨#[c]⟩ : Str)).map V.str))) ⟨[], fun c hc => (by cases hc), rfl, k1.trans (.of (same_new nD _)), B1.kp (same_new nD _), upd_same⟩ ?_ ?_
  · rintro i H2 hi ⟨cs, hlow, hcl, k2, B2, hD⟩
    refine ⟨rfl, _, rfl, _, rfl, b, l, _, abc.map (fun c => V.str ⟨#[c]⟩), rfl, B2, .inl ⟨_, rfl, (by rw [abc_str, SX.S_len, abc_len]; decide), by rw [abc_str]⟩, by rw [List.length_map, abc_len]; decide, by rw [List.length_map, abc_len]; decide, fun j v H3 hv k3 B3 => ?_⟩
    rw [List.getElem?_map] at hv
    obtain ⟨c, hc, rfl⟩ := Option.map_eq_some_iff.mp hv
    have hcl' : Low [c] := .one (abc_mem.mp (List.mem_of_getElem? hc))
    have hD3 := k3 _ _ hD nDb.1
    refine ⟨_, hD3, (by rw [List.length_map, List.length_map, hcl]; exact small1000 (by omega)), cs ++ [c], hlow.app hcl', by rw [List.length_append, hcl]; rfl, ?_, ?_, ?_⟩
    · exact (k2.trans k3).upd (k1.free nDb.1 nD)
    · exact B3.upd nDb.1 nDb.2
    · rw [upd_same, List.map_append, List.map_append]
      rfl
  · rintro H2 ⟨cs, hlow, hcl, k2, B2, hD⟩
    have sz : ((cs.map fun c => (⟨#[c]⟩ : Str)).map (·.length)).sum + (cs.map fun c => (⟨#[c]⟩ : Str)).length * (Str.ofString "").length ≤ 16777216 := by
      have e1 : ∀ l : List Nat, ((l.map fun c => (⟨#[c]⟩ : Str)).map (·.length)).sum = l.length := fun l => by
        induction l with
        | nil => rfl
        | cons c r ih =>
          rw [List.map_cons, List.map_cons, List.sum_cons, ih, List.length_cons]
          show 1 + r.length = r.length + 1
          omega
      have e2 : (Str.ofString "").length = 0 := rfl
      rw [e1, e2]
      omega
    refine ⟨_, D, _, rfl, rfl, .inl (SqL.of hD), sz, ?_⟩
    rw [join_signs]
    have hz : (SX.S cs).length ≤ sizeLine := by rw [SX.S_len]; exact small (by omega)
    -- at, first
    refine ⟨_, rfl, _, rfl, _, (SX.S cs).length, rfl, ⟨hz, rfl⟩, _, _, rfl, rfl, b, l, _, rfl, B2, by omega, by rw [SX.S_len]; omega, fun at' H3 ha0 ha1 k3 B3 => ?_⟩
    refine ⟨_, rfl, b, l, 26, rfl, B3, by decide, by decide, fun fi H4 hf0 hf1 k4 B4 => ?_⟩
    refine ⟨(by show 2 ≤ sizeLine; decide), fun t nt => ⟨t, _, rfl, SqT.of upd_same, rfl, _, _, rfl, _, _, rfl, rfl, ?_⟩⟩
    rw [SX.S_len] at ha1
    have nt' := B4.new nt
    have B5 := B4.kp (same_new nt (.tup [.int at', .int fi]))
    have k5 : Kp b H (upd H4 t (.tup [.int at', .int fi])) := (k2.trans (k3.trans k4)).trans (.of (same_new nt _))
    -- the names
    refine ⟨_, rfl, (m : Int), rfl, by omega, by omega, fun R nR => ?_⟩
    have nR' := B5.new nR
    have hR0 : H R = none := k5.free nR'.1 nR
    refine lc_range (lo := 0) (n := (m : Int).toNat) (fun i H' => Kp b H H' ∧ Bag H' b l ∧ H' R = some (.lst (((List.range i).map (nm cs at'.toNat fi.toNat)).map fun w => V.str (SX.S w)))) ⟨k5.upd hR0, B5.upd nR'.1 nR'.2, upd_same⟩ ?_ ?_
    · rintro i H6 hi ⟨k6, B6, hR⟩
      refine ⟨rfl, ?_⟩
      have him : i < m := by omega
      have e5 : ((fi + 5 * (0 + (i : Int))).fmod 26) = (((fi.toNat + 5 * i) % 26 : Nat) : Int) := by
        rw [Int.fmod_eq_emod_of_nonneg _ (by decide)]
        omega
      have hat : atI ("abcdefghijklmnopqrstuvwxyz" : Str).cps.toList ((fi + 5 * (0 + (i : Int))).fmod 26) = some (97 + (fi.toNat + 5 * i) % 26) := by
        rw [e5, abc_str]
        refine atI_nat ?_
        show abc[(fi.toNat + 5 * i) % 26]? = _
        rw [abc_at (Nat.mod_lt _ (by decide)), Nat.add_comm]
      have hz26 : ("abcdefghijklmnopqrstuvwxyz" : Str).length ≤ sizeLine := by rw [abc_str, SX.S_len, abc_len]; decide
      refine ⟨_, rfl, _, rfl, at', rfl, SX.S cs, rfl, hz, ?_⟩
      rw [SX.slice_to ha0]
      refine ⟨_, rfl, _, rfl, _, rfl, _, _, rfl, rfl, .inl ⟨by decide, by decide⟩, _, _, rfl, rfl, .inl ⟨_, rfl, _, _, rfl, rfl, (by show (26 : Int) ≠ 0; decide), _, _, _, rfl, rfl, hz26, hat, ?_⟩⟩
      refine ⟨_, _, rfl, rfl, (by rw [SX.S_len, List.length_take]; show min _ _ + 1 ≤ sizeLine; exact small (by omega)), ?_⟩
      have ec1 : SX.S (cs.take at'.toNat) ++ (⟨#[97 + (fi.toNat + 5 * i) % 26]⟩ : Str) = SX.S (cs.take at'.toNat ++ [97 + (fi.toNat + 5 * i) % 26]) := SX.S_cat _ [_]
      rw [ec1]
      refine ⟨_, rfl, _, rfl, at', rfl, SX.S cs, rfl, hz, ?_⟩
      rw [SX.slice_from ha0]
      refine ⟨_, _, rfl, rfl, (by rw [SX.S_len, SX.S_len, List.length_append, List.length_take, List.length_drop, List.length_singleton]; exact small (by omega)), ?_⟩
      rw [SX.S_cat]
      refine ⟨_, hR, (by rw [List.length_map, List.length_map, List.length_range]; exact small1000 (by omega)), k6.upd hR0, B6.upd nR'.1 nR'.2, ?_⟩
      rw [upd_same, List.range_succ, List.map_append, List.map_append]
      rfl
    · rintro H6 ⟨k6, B6, hR⟩
      rw [Int.toNat_natCast] at hR
      exact q R _ H6 ⟨cs, at'.toNat, fi.toNat, hlow, by omega, by omega, by omega, rfl⟩ hR0 k6 B6 hR
end

end Ag

namespace Ag
open PySem PySem.Spec PyProof.Rows L2
section
variable {P : Program} {w : World} {K : PySem.W.Frag} {mg : Str → Option Value} {base : Heap}
/-! ### _law_like: two things that are told by the same data are alike -/
def spLike (K : PySem.W.Frag) (n : Nat) : Sp := fun vs H Q _ => ∃ (x y : V) (d : PyData), vs = [x, y] ∧ Da K H x d ∧ Da K H y d ∧ oka n d = true ∧ ∀ H', Same H H' → Q (.bl true) H'
theorem scLike : FnScope ["_law_found", "_law_due", "_law_key", "_law_one", "_law_other"] ["_law_found", "_law_due"] (defScope s_law_like) := ⟨rfl, rfl, rfl, by decide +kernel, rfl, by decide +kernel, by decide +kernel⟩
theorem ok_like {n : Nat} {f : Addr} {fd : FuncData} (F : Fun K "_law_like" "_law_like" s_law_like f fd) (cG : C8.Cal P w K mg base n "_law_like" (spLike K n) []) (M : LikeM mg) :
    FnOk P w K mg base CX0 (n + 1) f fd ["_law_found", "_law_due"] (spLike K (n + 1)) := by
  refine F.ok scLike (fun vs H Q E h => ?_) (fun cdv A outer s H vs Q E hr h => ?_)
  · obtain ⟨x, y, d, rfl, _⟩ := h
    rfl
  obtain ⟨x, y, d, rfl, hx, hy, hok, q⟩ := h
  have nd := scLike.nd
  refine ⟨_, pss_cons (ps_if (pt_val (pe_callB call_isi (by rfl) M.isi (by decide +kernel) (pa_cons (pv 1) (pa_cons (pe_bltn (v := .ty "dict") (u := .type "dict") (by rfl) M.dict (by decide +kernel) rfl) pa_nil)))) (pss_one (ps_ret (pe_and (pe_callB call_isi (by rfl) M.isi (by decide +kernel) (pa_cons (pv 0) (pa_cons (pe_bltn (v := .ty "dict") (u := .type "dict") (by rfl) M.dict (by decide +kernel) rfl) pa_nil)))
        (pe_and (pe_cmpR (op_eqD hr.units) (pe_callB cr_sortedS (by rfl) M.sorted (by decide +kernel) (pa_cons (pe_callTy (call_listD rfl) (by rfl) M.list (by decide +kernel) (pa_cons (pv 0) pa_nil)) pa_nil))
            (pe_callB cr_sortedS (by rfl) M.sorted (by decide +kernel) (pa_cons (pe_callTy (call_listD rfl) (by rfl) M.list (by decide +kernel) (pa_cons (pv 1) pa_nil)) pa_nil)) (nomark _))
          (pe_one (pe_callB (cr_all rfl) (by rfl) M.all (by decide +kernel) (pa_cons (pe_lock (pe_lc (own := [("_law_key", 2)]) (g := gName 2) (tt := tYes) rfl nd (pi_keys (pv 1)) (blkOk_by (own := [("_law_key", 2)]) (N := ["_law_found", "_law_due", "_law_key", "_law_one", "_law_other"]) (sc := defScope s_law_like) (by decide +kernel))
            (fun _ _ _ _ _ => pg_name (i := 2) nd rfl (Or.inl rfl)) (fun _ _ _ _ _ => pts_nil) (fun _ _ _ _ _ => C8.pe_c cG hr (Nat.le_refl n) (by rfl) (pa_cons (pe_dget (hu_of hr) (pv 0) (pv 2) (fun _ _ => rfl)) (pa_cons (pe_dget (hu_of hr) (pv 1) (pv 2) (fun _ _ => rfl)) pa_nil))))) pa_nil))))))) pss_nil)
    (pss_cons (ps_if (pt_val (pe_callB call_isiT (by rfl) M.isi (by decide +kernel) (pa_cons (pv 1) (pa_cons (pe_tup (pa_cons (pe_bltn (v := .ty "list") (u := .type "list") (by rfl) M.list (by decide +kernel) rfl) (pa_cons (pe_bltn (v := .ty "tuple") (u := .type "tuple") (by rfl) M.tuple (by decide +kernel) rfl) pa_nil))) pa_nil))))
      (pss_cons (ps_if (PW.pt (pw_or (pt_cmpR op_ne (pe_callB call_isi (by rfl) M.isi (by decide +kernel) (pa_cons (pv 0) (pa_cons (pe_bltn (v := .ty "list") (u := .type "list") (by rfl) M.list (by decide +kernel) rfl) pa_nil))) (pe_callB call_isi (by rfl) M.isi (by decide +kernel) (pa_cons (pv 1) (pa_cons (pe_bltn (v := .ty "list") (u := .type "list") (by rfl) M.list (by decide +kernel) rfl) pa_nil))) (nomark _))
          (pw_or1 (pt_cmpR op_ne (pe_callB call_isi (by rfl) M.isi (by decide +kernel) (pa_cons (pv 0) (pa_cons (pe_bltn (v := .ty "tuple") (u := .type "tuple") (by rfl) M.tuple (by decide +kernel) rfl) pa_nil))) (pe_callB call_isi (by rfl) M.isi (by decide +kernel) (pa_cons (pv 1) (pa_cons (pe_bltn (v := .ty "tuple") (u := .type "tuple") (by rfl) M.tuple (by decide +kernel) rfl) pa_nil))) (nomark _))))) (pss_one (ps_ret pe_bl)) pss_nil)
      (pss_one (ps_ret (pe_and (pe_cmpR op_eq (pe_callB call_len (by rfl) M.len boot_len (pa_cons (pv 0) pa_nil)) (pe_callB call_len (by rfl) M.len boot_len (pa_cons (pv 1) pa_nil)) (nomark _))
        (pe_one (pe_callB (cr_all rfl) (by rfl) M.all (by decide +kernel) (pa_cons (pe_lc (own := [("_law_one", 3), ("_law_other", 4)]) (g := gTup K 2 (gCons (gName 3) (gCons (gName 4) gNil))) (tt := tYes) rfl nd (RZ.pi_zipA (by rfl) M.zip (pa_cons (pv 0) (pa_cons (pv 1) pa_nil))) (blkOk_by (own := [("_law_one", 3), ("_law_other", 4)]) (N := ["_law_found", "_law_due", "_law_key", "_law_one", "_law_other"]) (sc := defScope s_law_like) (by decide +kernel))
          (fun _ _ _ _ _ => pg_tup rfl (pgs_cons (pg_name (i := 3) nd rfl (Or.inl rfl)) (pgs_cons (pg_name (i := 4) nd rfl (Or.inl rfl)) pgs_nil))) (fun _ _ _ _ _ => pts_nil) (fun _ _ _ _ _ => C8.pe_c cG hr (Nat.le_refl n) (by rfl) (pa_cons (pv 3) (pa_cons (pv 4) pa_nil)))) pa_nil))))))) pss_nil)
    (pss_cons (ps_if (PW.pt (pw_or (pt_cmp (pc_isN (pv 1)) rfl) (pw_or1 (pt_cmp (pc_isN (pv 0)) rfl)))) (pss_one (ps_ret (pe_and (pe_cmp (pc_isN (pv 1)) rfl) (pe_one (pe_cmp (pc_isN (pv 0)) rfl))))) pss_nil)
    (pss_cons (ps_if (PW.pt (pw_or (pt_cmpR op_ne (pe_callB call_isi (by rfl) M.isi (by decide +kernel) (pa_cons (pv 0) (pa_cons (pe_bltn (v := .ty "bool") (u := .type "bool") (by rfl) M.bool (by decide +kernel) rfl) pa_nil))) (pe_callB call_isi (by rfl) M.isi (by decide +kernel) (pa_cons (pv 1) (pa_cons (pe_bltn (v := .ty "bool") (u := .type "bool") (by rfl) M.bool (by decide +kernel) rfl) pa_nil))) (nomark _))
          (pw_or1 (pt_cmpR op_ne (pe_callB call_isi (by rfl) M.isi (by decide +kernel) (pa_cons (pv 0) (pa_cons (pe_bltn (v := .ty "int") (u := .type "int") (by rfl) M.int (by decide +kernel) rfl) pa_nil))) (pe_callB call_isi (by rfl) M.isi (by decide +kernel) (pa_cons (pv 1) (pa_cons (pe_bltn (v := .ty "int") (u := .type "int") (by rfl) M.int (by decide +kernel) rfl) pa_nil))) (nomark _))))) (pss_one (ps_ret pe_bl)) pss_nil)
    (pss_one (ps_ret (pe_and (pe_cmpR op_eq (pe_callB call_isi (by rfl) M.isi (by decide +kernel) (pa_cons (pv 0) (pa_cons (pe_bltn (v := .ty "str") (u := .type "str") (by rfl) M.str (by decide +kernel) rfl) pa_nil))) (pe_callB call_isi (by rfl) M.isi (by decide +kernel) (pa_cons (pv 1) (pa_cons (pe_bltn (v := .ty "str") (u := .type "str") (by rfl) M.str (by decide +kernel) rfl) pa_nil))) (nomark _))
      (pe_one (pe_cmpR op_eq (pv 0) (pv 1) (nomark _))))))))), ?_⟩
  have kd := kit_some (d := d)
  -- isinstance(due, dict)
  refine ⟨_, rfl, y, .ty "dict", _, .type "dict", _, rfl, .ty _, da_tyx hy, isk kd.1, _, rfl, ?_⟩
  by_cases hdic : ∃ es, d = .dict es
  · obtain ⟨es, rfl⟩ := hdic
    refine iteU isD_dic ?_
    cases hx with
    | @dic a kvs kvs' _ ea p1 n1 r1 =>
    cases hy with
    | @dic c kws kws' _ ec p2 n2 r2 =>
      refine ⟨_, rfl, .ref a, .ty "dict", _, .type "dict", _, rfl, .ty _, .base (.dK ea), isk (d := .dict es) kd.1, _, rfl, iteU isD_dic ?_⟩
      obtain ⟨k1, e1, l1, o1, t1, u1⟩ := dic_keys (fun _ _ z => z.1) hok r1
      obtain ⟨k2, e2, l2, o2, t2, u2⟩ := dic_keys (fun _ _ z => z.1) hok r2
      have e12 : k1 = k2 := by
        have z := t1.symm.trans t2
        have inj : ∀ (a b : List Str), a.map PyData.str = b.map PyData.str → a = b := fun a => by
          induction a with
          | nil => intro b h; cases b with
            | nil => rfl
            | cons _ _ => cases h
          | cons x r ih => intro b h; cases b with
            | nil => cases h
            | cons y t =>
              rw [List.map_cons, List.map_cons] at h
              injection h with h1 h2
              injection h1 with h1
              rw [h1, ih t h2]
        exact inj _ _ z
      subst e12
      have hl64 : es.length < 64 := by
        simp only [oka, Bool.and_eq_true, decide_eq_true_eq] at hok
        exact hok.1
      -- the keys, sorted
      have q1 : (kvs.map fun kv => kV kv.1).Perm (k1.map V.str) := by rw [← e1]; exact p1.map _
      have q2 : (kws.map fun kv => kV kv.1).Perm (k1.map V.str) := by rw [← e2]; exact p2.map _
      have keysof : ∀ {l : List (Key × V)} {m : List (Key × V)}, l.Perm m → ∀ {ks : List Str}, (m.map (·.1)) = ks.map Sum.inr → ∃ ks' : List Str, (l.map fun kv => kV kv.1) = ks'.map V.str ∧ ks'.Perm ks := by
        intro l m pm ks hm
        have pk : (l.map (·.1)).Perm (ks.map Sum.inr) := by rw [← hm]; exact pm.map _
        let un : Key → Str := fun k => match k with | .inl _ => ⟨#[]⟩ | .inr x => x
        have hall : ∀ kv ∈ l, ∃ x, kv.1 = Sum.inr x := fun kv hkv => by
          have z : kv.1 ∈ ks.map (Sum.inr (α := Int)) := pk.mem_iff.mp (List.mem_map.mpr ⟨kv, hkv, rfl⟩)
          obtain ⟨x, _, e⟩ := List.mem_map.mp z
          exact ⟨x, e.symm⟩
        refine ⟨l.map fun kv => un kv.1, ?_, ?_⟩
        · rw [List.map_map]
          refine List.map_congr_left fun kv hkv => ?_
          obtain ⟨x, e⟩ := hall kv hkv
          show kV kv.1 = V.str (un kv.1)
          rw [e]
          rfl
        · have z := pk.map un
          rw [List.map_map, List.map_map] at z
          have z2 : ks.map (un ∘ Sum.inr) = ks := by
            have : (un ∘ Sum.inr : Str → Str) = id := rfl
            rw [this, List.map_id]
          rw [z2] at z
          exact z
      obtain ⟨ka, ea1, pa1⟩ := keysof p1 u1
      obtain ⟨kb, eb1, pb1⟩ := keysof p2 u2
      refine ⟨_, rfl, a, kvs, rfl, .inl ea, fun L1 nL1 => ?_⟩
      rw [ea1]
      refine ⟨L1, ka, rfl, SqL.of upd_same, by rw [pa1.length_eq, l1]; exact hl64, fun s1 S1 ps1 ss1 nS1 => ?_⟩
      have g1 := same_new nL1 (.lst (ka.map V.str))
      have g2 := same_new nS1 (.lst (s1.map V.str))
      refine ⟨_, rfl, c, kws, rfl, .inl ((g1.trans g2) _ _ ec), fun L2 nL2 => ?_⟩
      rw [eb1]
      refine ⟨L2, kb, rfl, SqL.of upd_same, by rw [pb1.length_eq, l1]; exact hl64, fun s2 S2 ps2 ss2 nS2 => ?_⟩
      have g3 := same_new nL2 (.lst (kb.map V.str))
      have g4 := same_new nS2 (.lst (s2.map V.str))
      have es12 : s1 = s2 := sorted_one (ps1.trans (pa1.trans (pb1.symm.trans ps2.symm))) ss1 ss2
      subst es12
      have ok1 : ∀ y ∈ s1, (y.cps.all (· < 0x110000)) = true := fun y hy => o1 y ((ps1.trans pa1).mem_iff.mp hy)
      have hsh := shaped_strs ok1
      have g5 := (g1.trans g2).trans (g3.trans g4)
      refine ⟨.list (s1.map PyData.str), .list (s1.map PyData.str), .lst (SqL.of ((g3.trans g4) _ _ upd_same)) (dpall_strs s1), .lst (SqL.of upd_same) (dpall_strs s1), hsh, hsh, _, rfl, iteU (SeqAt.eqv_refl _ (lay_strs s1 ok1)) ?_⟩
      -- item by item
      have hc5 := g5 _ _ ec
      have ha5 := g5 _ _ ea
      refine ⟨c, .dK kws, hc5, trivial, fun od => ?_⟩
      refine ⟨_, rfl, c, od, rfl, .inl ⟨kws, upd_same, fun D nD => ?_⟩⟩
      have nDc : D ≠ c := (ne_of_none upd_same nD).symm
      have lk := RdLe.lock hc5 (show Mut (some (.dK kws)) from trivial) od
      refine lc_it (walk_keys (d := c) (o := od) (kvs := kws)) (fun i H' => Same (upd _ c (.frz od (.dK kws))) H' ∧ H' D = some (.lst (List.replicate i (.bl true)))) ⟨same_new nD _, upd_same⟩ (fun i H' _ pv => pv.1 _ _ upd_same) ?_ ?_
      · rintro i v H2 _ hi ⟨w1, w2⟩ ⟨rfl, k, v', hk, rfl⟩
        have hm2 : (k, v') ∈ kws := List.mem_of_getElem? hk
        obtain ⟨e, he, hk2, hd2⟩ := paired_mem r2 (p2.mem_iff.mp hm2)
        obtain ⟨kv1, hkv1, hk1, hd1⟩ := paired_mem2 r1 he
        have ek : kv1.1 = k := by
          have z : keyD kv1.1 = keyD k := hk1.symm.trans hk2
          cases h1 : kv1.1 <;> cases h2 : k <;> (rw [h1, h2] at z; simp only [keyD] at z; first | (injection z with z; rw [z]) | cases z)
        have hv1 : valV kvs k = some kv1.2 := valV_of n1 (by rw [← ek]; exact p1.mem_iff.mpr hkv1)
        have hv2 : valV kws k = some v' := valV_of n2 hm2
        have rdl : RdLe H _ := fun b u z => RdLe.of w1 _ _ (lk _ _ (RdLe.of g5 _ _ z))
        refine ⟨rfl, ?_⟩
        refine ⟨_, rfl, _, rfl, a, _, rfl, .inl ⟨kvs, k, rdl _ _ (.inl ea), rfl, hv1.symm⟩, ?_⟩
        refine ⟨_, rfl, _, rfl, c, _, rfl, .inl ⟨kws, k, rdl _ _ (.inl ec), rfl, hv2.symm⟩, ?_⟩
        have hoke : oka n e.2 = true := by
          simp only [oka, Bool.and_eq_true, List.all_eq_true] at hok
          exact (hok.2 e he).2
        refine ⟨_, _, e.2, rfl, Da_of (Dp_rd rdl hd1), Da_of (Dp_rd rdl hd2), hoke, fun H3 g6 => ?_⟩
        have hil : i < kws.length := hi
        have hlen : kws.length < 64 := by
          have z := (p2.map (·.1)).length_eq
          rw [u2, List.length_map, List.length_map, l1] at z
          omega
        refine ⟨_, g6 _ _ w2, (by rw [List.length_replicate]; exact small1000 (by omega)), fun b o hb => ?_, ?_⟩
        · rw [upd_ne (ne_of_none hb nD)]
          exact g6 _ _ (w1 _ _ hb)
        · rw [upd_same, List.replicate_succ']
      · rintro H' ⟨w1, w2⟩
        refine ⟨w1 _ _ upd_same, ?_⟩
        refine ⟨D, List.replicate kws.length true, rfl, SqL.of (by rw [upd_ne nDc, w2, rep_bl]), ?_⟩
        rw [rep_all]
        refine q _ fun b o hb => ?_
        by_cases hbc : b = c
        · subst hbc
          rw [upd_same]
          rw [ec] at hb
          exact hb
        · rw [upd_ne hbc]
          exact w1 _ _ (by rw [upd_ne hbc]; exact g5 _ _ hb)
  refine iteE (isD_nodict fun es e => hdic ⟨es, e⟩) ?_
  -- isinstance(due, (list, tuple))
  refine ⟨_, rfl, (by show 2 ≤ sizeLine; decide), fun p np => ⟨y, p, _, _, _, _, rfl, upd_same, ct2, da_tyx (Da_same (same_new np _) hy), iskT, _, rfl, ?_⟩⟩
  have s1 : Same H (upd H p (.tup [.ty "list", .ty "tuple"])) := same_new np _
  replace hx := Da_same s1 hx
  replace hy := Da_same s1 hy
  have isn : ∀ T, (decide (V.bl (isD T d) = V.bl (isD T d))) = true := fun T => by simp
  by_cases hseq : (∃ ds, d = .list ds) ∨ ∃ ds, d = .tuple ds
  · refine iteU (isD_seq hseq) ?_
    refine ⟨_, rfl, x, .ty "list", _, .type "list", _, rfl, .ty _, da_tyx hx, isk kd.2.1, _, rfl, y, .ty "list", _, .type "list", _, rfl, .ty _, da_tyx hy, isk kd.2.1, rfl, _, rfl, iteNS rfl ?_⟩
    refine ⟨_, rfl, x, .ty "tuple", _, .type "tuple", _, rfl, .ty _, da_tyx hx, isk kd.2.2.1, _, rfl, y, .ty "tuple", _, .type "tuple", _, rfl, .ty _, da_tyx hy, isk kd.2.2.1, rfl, _, rfl, iteNS rfl ?_⟩
    rcases hseq with ⟨ds, rfl⟩ | ⟨ds, rfl⟩
    · simp only [oka, Bool.and_eq_true, decide_eq_true_eq, List.all_eq_true] at hok
      cases hx with
      | @lst a xs _ q1 a1 =>
        cases hy with
        | @lst c ys _ q2 a2 =>
          have l1 := daall_len a1
          have l2 := daall_len a2
          have eln : decide (V.int (xs.length : Nat) = V.int (ys.length : Nat)) = true := by rw [l1, l2]; exact decide_eq_true rfl
          refine ⟨_, rfl, _, xs.length, rfl, .inl ⟨_, q1, rfl⟩, _, rfl, _, ys.length, rfl, .inl ⟨_, q2, rfl⟩, rfl, _, rfl, iteU eln ?_⟩
          refine ⟨_, rfl, _, rfl, a, c, xs, ys, rfl, .inl ⟨q1, q2, fun D nD => ?_⟩⟩
          refine lc_it (walk_zip (n := ds.length) (by omega)) (fun i H' => Same (upd H p (.tup [.ty "list", .ty "tuple"])) H' ∧ H' D = some (.lst (List.replicate i (.bl true)))) ⟨same_new nD _, upd_same⟩
            (fun i H' _ pv => ⟨Same.seq pv.1 q1, Same.seq pv.1 q2⟩) ?_ ?_
          · rintro i v H1 H2 hi ⟨g1, g2⟩ ⟨T, u, v', rfl, nT, rfl, hu, hv⟩
            obtain ⟨e, he, de⟩ := daall_get a1 hu
            obtain ⟨e', he', de'⟩ := daall_get a2 hv
            have ee : e' = e := by rw [he] at he'; exact (Option.some.inj he').symm
            subst ee
            have g3 := same_new nT (.tup [u, v'])
            have g4 := g1.trans g3
            refine ⟨T, [u, v'], rfl, SqT.of upd_same, rfl, u, [v'], rfl, v', [], rfl, rfl, rfl, ?_⟩
            refine ⟨_, rfl, _, rfl, u, v', e', rfl, Da_same g4 de, Da_same g4 de', hok.2 _ (List.mem_of_getElem? he), fun H3 g5 => ?_⟩
            have hD3 := g5 _ _ (g3 _ _ g2)
            have hil : i < sizeLine := small1000 (by omega)
            refine ⟨_, hD3, (by rw [List.length_replicate]; exact hil), fun b o hb => ?_, ?_⟩
            · have nb : b ≠ D := ne_of_none hb nD
              rw [upd_ne nb]
              exact g5 _ _ (g4 _ _ hb)
            · rw [upd_same, List.replicate_succ']
          · rintro H' ⟨g1, g2⟩
            refine ⟨D, List.replicate ds.length true, rfl, SqL.of (by rw [g2, rep_bl]), ?_⟩
            rw [rep_all]
            exact q _ (s1.trans g1)
    · simp only [oka, Bool.and_eq_true, decide_eq_true_eq, List.all_eq_true] at hok
      cases hx with
      | @tup a xs _ q1 a1 =>
        cases hy with
        | @tup c ys _ q2 a2 =>
          have l1 := daall_len a1
          have l2 := daall_len a2
          have eln : decide (V.int (xs.length : Nat) = V.int (ys.length : Nat)) = true := by rw [l1, l2]; exact decide_eq_true rfl
          refine ⟨_, rfl, _, xs.length, rfl, .inr ⟨_, q1, rfl⟩, _, rfl, _, ys.length, rfl, .inr ⟨_, q2, rfl⟩, rfl, _, rfl, iteU eln ?_⟩
          refine ⟨_, rfl, _, rfl, a, c, xs, ys, rfl, .inr ⟨q1, q2, fun D nD => ?_⟩⟩
          refine lc_it (walk_zipT (n := ds.length) (by omega)) (fun i H' => Same (upd H p (.tup [.ty "list", .ty "tuple"])) H' ∧ H' D = some (.lst (List.replicate i (.bl true)))) ⟨same_new nD _, upd_same⟩
            (fun i H' _ pv => ⟨sameT pv.1 q1, sameT pv.1 q2⟩) ?_ ?_
          · rintro i v H1 H2 hi ⟨g1, g2⟩ ⟨T, u, v', rfl, nT, rfl, hu, hv⟩
            obtain ⟨e, he, de⟩ := daall_get a1 hu
            obtain ⟨e', he', de'⟩ := daall_get a2 hv
            have ee : e' = e := by rw [he] at he'; exact (Option.some.inj he').symm
            subst ee
            have g3 := same_new nT (.tup [u, v'])
            have g4 := g1.trans g3
            refine ⟨T, [u, v'], rfl, SqT.of upd_same, rfl, u, [v'], rfl, v', [], rfl, rfl, rfl, ?_⟩
            refine ⟨_, rfl, _, rfl, u, v', e', rfl, Da_same g4 de, Da_same g4 de', hok.2 _ (List.mem_of_getElem? he), fun H3 g5 => ?_⟩
            have hD3 := g5 _ _ (g3 _ _ g2)
            have hil : i < sizeLine := small1000 (by omega)
            refine ⟨_, hD3, (by rw [List.length_replicate]; exact hil), fun b o hb => ?_, ?_⟩
            · have nb : b ≠ D := ne_of_none hb nD
              rw [upd_ne nb]
              exact g5 _ _ (g4 _ _ hb)
            · rw [upd_same, List.replicate_succ']
          · rintro H' ⟨g1, g2⟩
            refine ⟨D, List.replicate ds.length true, rfl, SqL.of (by rw [g2, rep_bl]), ?_⟩
            rw [rep_all]
            exact q _ (s1.trans g1)
  · refine iteE (isD_leaf (fun ds e => hseq (.inl ⟨ds, e⟩)) (fun ds e => hseq (.inr ⟨ds, e⟩))) ?_
    have nl : ∀ ds, d ≠ .list ds := fun ds e => hseq (.inl ⟨ds, e⟩)
    have nt : ∀ ds, d ≠ .tuple ds := fun ds e => hseq (.inr ⟨ds, e⟩)
    have exy : x = y ∧ ((scal x y = true ∧ decide (x = .non) = false) ∨ x = .non) := by
      cases hx with
      | non => cases hy; exact ⟨rfl, .inr rfl⟩
      | bl b => cases hy; exact ⟨rfl, .inl ⟨rfl, rfl⟩⟩
      | int b => cases hy; exact ⟨rfl, .inl ⟨rfl, rfl⟩⟩
      | str b => cases hy; exact ⟨rfl, .inl ⟨rfl, rfl⟩⟩
      | dic _ _ _ _ => exact absurd ⟨_, rfl⟩ hdic
      | lst _ _ => exact absurd rfl (nl _)
      | tup _ _ => exact absurd rfl (nt _)
    obtain ⟨rfl, hsc⟩ := exy
    rcases hsc with ⟨hsc, en⟩ | hn
    · refine ⟨_, rfl, _, rfl, iteE en ⟨_, rfl, _, rfl, iteE en ?_⟩⟩
      refine ⟨_, rfl, x, .ty "bool", _, .type "bool", _, rfl, .ty _, da_tyx hx, isk kd.2.2.2.1, _, rfl, x, .ty "bool", _, .type "bool", _, rfl, .ty _, da_tyx hy, isk kd.2.2.2.1, rfl, _, rfl, iteNS rfl ?_⟩
      refine ⟨_, rfl, x, .ty "int", _, .type "int", _, rfl, .ty _, da_tyx hx, isk kd.2.2.2.2.1, _, rfl, x, .ty "int", _, .type "int", _, rfl, .ty _, da_tyx hy, isk kd.2.2.2.2.1, rfl, _, rfl, iteNS rfl ?_⟩
      refine ⟨_, rfl, x, .ty "str", _, .type "str", _, rfl, .ty _, da_tyx hx, isk kd.2.2.2.2.2, _, rfl, x, .ty "str", _, .type "str", _, rfl, .ty _, da_tyx hy, isk kd.2.2.2.2.2, rfl, _, rfl, iteU (isn _) ?_⟩
      refine ⟨_, rfl, _, rfl, hsc, ?_⟩
      rw [decide_eq_true rfl]
      exact q _ s1
    · subst hn
      refine ⟨_, rfl, _, rfl, iteU rfl ⟨_, rfl, _, rfl, iteU rfl ⟨_, rfl, ?_⟩⟩⟩
      exact q _ s1
theorem no_like0 (vs : List V) (H : Hp) (Q : VK) (E : XK) : ¬ spLike K 0 vs H Q E := by
  rintro ⟨x, y, d, _, _, _, h, _⟩
  cases h
theorem like_cal {f : Addr} {fd : FuncData} (F : Fun K "_law_like" "_law_like" s_law_like f fd) (b : Binds K fd ["_law_found", "_law_due"] []) (m : mg "_law_like" = some (.ref f)) (M : LikeM mg) : ∀ n : Nat, C8.Cal P w K mg base n "_law_like" (spLike K n) []
  | 0 => ⟨f, fd, ["_law_found", "_law_due"], [], ⟨fun vs H Q E h => absurd h (no_like0 vs H Q E), fun A outer s H args us vs Q E _ _ _ _ h => absurd h (no_like0 vs H Q E)⟩, m, F.kp, b, .nil⟩
  | n + 1 => ⟨f, fd, ["_law_found", "_law_due"], [], ok_like F (like_cal F b m M n) M, m, F.kp, b, .nil⟩
end

end Ag

namespace Ag
open PySem PySem.Spec PyProof.Rows L2
section
variable {P : Program} {w : World} {K : PySem.W.Frag} {mg : Str → Option Value} {base : Heap}
/-! ### _law_form -/
def spForm (K : PySem.W.Frag) (n : Nat) : Sp := fun vs H Q _ => ∃ (b l wa : Addr) (ws : List (List Nat)) (dp : Int), vs = [.ref b, .ref wa, .int dp] ∧ Bag H b l ∧ SqL K H wa (ws.map fun w => V.str (SX.S w)) ∧ wa ≠ b ∧ 0 < ws.length ∧ ws.length ≤ 1000 ∧ 1 ≤ dp ∧ dp ≤ n ∧
  ∀ (v : V) (t : Fm) (H' : Hp), okF ws [] dp.toNat t → Fr K H' v t → Kp b H H' → Bag H' b l → Q v H'
abbrev nForm : List Str := ["_law_bag_here", "_law_words", "_law_deep", "_law_way", "_law_one"]
theorem scForm : FnScope nForm ["_law_bag_here", "_law_words", "_law_deep"] (defScope s_law_form) := ⟨rfl, rfl, rfl, by decide +kernel, rfl, by decide +kernel, by decide +kernel⟩
theorem ok_form {n : Nat} {f : Addr} {fd : FuncData} (F : Fun K "_law_form" "_law_form" s_law_form f fd) (cP : C8.Cal P w K mg base 1 "_law_pull" spPull []) (cA : C8.Cal P w K mg base 2 "_law_any" (spAny K) []) (cF : C8.Cal P w K mg base (n + 2) "_law_form" (spForm K n) []) :
    FnOk P w K mg base CX0 (n + 3) f fd ["_law_bag_here", "_law_words", "_law_deep"] (spForm K (n + 1)) := by
  refine F.ok scForm (fun vs H Q E h => ?_) (fun cdv A outer s H vs Q E hr h => ?_)
  · obtain ⟨b, l, wa, ws, dp, rfl, _⟩ := h
    rfl
  obtain ⟨b, l, wa, ws, dp, rfl, hB, hw, nwb, w0, w1, d0, d1, q⟩ := h
  have nd := scForm.nd
  refine ⟨_, pss_cons (ps_set (i := 3) nd rfl (.inl rfl) (C8.pe_c cP hr (by omega) (by rfl) (pa_cons (pv 0) (pa_cons pe_int pa_nil))))
    (pss_cons (ps_if (PW.pt (pw_or (pt_cmpR op_lt (pv 2) pe_int (nomark _)) (pw_or1 (pt_cmpR op_lt (pv 3) pe_int (nomark _)))))
      (pss_one (ps_ret (pe_ifExp (pt_cmpR op_eq (C8.pe_c cP hr (by omega) (by rfl) (pa_cons (pv 0) (pa_cons pe_int pa_nil))) pe_int (nomark _)) (pe_tup (pa_cons pe_str pa_nil)) (pe_tup (pa_cons pe_str (pa_cons (C8.pe_c cA hr (by omega) (by rfl) (pa_cons (pv 0) (pa_cons (pv 1) pa_nil))) pa_nil)))))) pss_nil)
    (pss_cons (ps_set (i := 4) nd rfl (.inl rfl) (C8.pe_c cF hr (Nat.le_refl _) (by rfl) (pa_cons (pv 0) (pa_cons (pv 1) (pa_cons (pe_op op_sub (pv 2) pe_int) pa_nil)))))
    (pss_one (ps_ret (pe_tup (pa_cons (pe_ix ix_tup (pe_tup (pa_cons pe_str (pa_cons pe_str (pa_cons pe_str pa_nil)))) (pe_op op_sub (pv 3) pe_int) (fun _ _ => rfl)) (pa_cons (pv 4) (pa_cons (C8.pe_c cF hr (Nat.le_refl _) (by rfl) (pa_cons (pv 0) (pa_cons (pv 1) (pa_cons (pe_op op_sub (pv 2) pe_int) pa_nil)))) pa_nil)))))))), ?_⟩
  refine ⟨_, rfl, b, l, 5, rfl, hB, by decide, by decide, fun wy H1 y0 y5 k1 B1 => ?_⟩
  have hdp : dp.toNat = (dp.toNat - 1) + 1 := by omega
  have leaf : ∀ t : Fm, (t = .fls ∨ ∃ w, t = .atom w ∧ w ∈ ws) → okF ws [] dp.toNat t := by
    intro t ht
    rw [hdp]
    rcases ht with rfl | ⟨w, rfl, hw⟩
    · trivial
    · exact hw
  refine ⟨_, rfl, _, _, rfl, rfl, _, rfl, ?_⟩
  by_cases hl : dp < 2 ∨ wy < 2
  · by_cases h1 : dp < 2
    all_goals first | refine iteU (decide_eq_true h1) ?_ | refine iteE (decide_eq_false h1) ⟨_, rfl, _, _, rfl, rfl, _, rfl, iteU (decide_eq_true (by omega)) ?_⟩
    all_goals
      refine ⟨_, rfl, b, l, 7, rfl, B1, by decide, by decide, fun d7 H2 _ _ k2 B2 => ⟨rfl, _, rfl, ite2 (fun _ => ?_) (fun _ => ?_)⟩⟩
      · refine ⟨(by show 1 ≤ sizeLine; decide), fun p np => ?_⟩
        exact q _ .fls _ (leaf _ (.inl rfl)) (mk_fls (SqT.of upd_same)) ((k1.trans k2).trans (.of (same_new np _))) (B2.kp (same_new np _))
      · have k12 := k1.trans k2
        refine ⟨_, rfl, _, rfl, b, l, _, _, rfl, B2, .inr ⟨wa, rfl, nwb, .inl (k12.seqL nwb hw)⟩, by rw [List.length_map]; exact w0, by rw [List.length_map]; omega, fun i v H3 hv k3 B3 => ?_⟩
        rw [List.getElem?_map] at hv
        obtain ⟨u, hu, rfl⟩ := Option.map_eq_some_iff.mp hv
        refine ⟨(by show 2 ≤ sizeLine; decide), fun p np => ?_⟩
        exact q _ (.atom u) _ (leaf _ (.inr ⟨u, rfl, List.mem_of_getElem? hu⟩)) (mk_atom (SqT.of upd_same)) ((k12.trans k3).trans (.of (same_new np _))) (B3.kp (same_new np _))
  · have h1 : ¬ dp < 2 := fun z => hl (.inl z)
    have h2 : ¬ wy < 2 := fun z => hl (.inr z)
    refine iteE (decide_eq_false h1) ⟨_, rfl, _, _, rfl, rfl, _, rfl, iteE (decide_eq_false h2) ?_⟩
    refine ⟨_, rfl, _, rfl, _, rfl, _, _, rfl, rfl, b, l, wa, ws, dp - 1, rfl, B1, k1.seqL nwb hw, nwb, w0, w1, by omega, by omega, fun v1 t1 H2 o1 f1 k2 B2 => ?_⟩
    refine ⟨(by show 3 ≤ sizeLine; decide), fun p np => ?_⟩
    have g1 := same_new np (.tup [.str "then", .str "and", .str "or"])
    have B3 := B2.kp g1
    have k12 := k1.trans k2
    have hy3 : (wy - 2).toNat < 3 := by omega
    generalize hj : (⟨(wy - 2).toNat, hy3⟩ : Fin 3) = j
    have hy : wy - 2 = ((j.val : Nat) : Int) := by rw [← hj]; show wy - 2 = (((wy - 2).toNat : Nat) : Int); omega
    refine ⟨_, rfl, _, _, rfl, rfl, p, _, _, _, rfl, rfl, SqT.of upd_same, (by rw [hy]; exact atI_kd j), ?_⟩
    refine ⟨_, rfl, _, rfl, _, rfl, _, rfl, _, _, rfl, rfl, b, l, wa, ws, dp - 1, rfl, B3, g1.seq (k12.seqL nwb hw), nwb, w0, w1, by omega, by omega, fun v2 t2 H4 o2 f2 k4 B4 => ?_⟩
    refine ⟨(by show 3 ≤ sizeLine; decide), fun r nr => ?_⟩
    have g2 := same_new nr (.tup [.str (kd j), v1, v2])
    refine q _ (.bin j t1 t2) _ ?_ (mk_bin (SqT.of upd_same) (((f1.same g1).kp k4 B3).same g2) (f2.same g2)) ((k12.trans (.of g1)).trans (k4.trans (.of g2))) (B4.kp g2)
    rw [hdp]
    have e1 : (dp - 1).toNat = dp.toNat - 1 := by omega
    rw [e1] at o1 o2
    exact ⟨o1, o2⟩
theorem no_form0 (vs : List V) (H : Hp) (Q : VK) (E : XK) : ¬ spForm K 0 vs H Q E := by
  rintro ⟨b, l, wa, ws, dp, _, _, _, _, _, _, h0, h1, _⟩
  omega
theorem form_cal {f : Addr} {fd : FuncData} (F : Fun K "_law_form" "_law_form" s_law_form f fd) (b : Binds K fd ["_law_bag_here", "_law_words", "_law_deep"] []) (m : mg "_law_form" = some (.ref f)) (cP : C8.Cal P w K mg base 1 "_law_pull" spPull []) (cA : C8.Cal P w K mg base 2 "_law_any" (spAny K) []) : ∀ n : Nat, C8.Cal P w K mg base (n + 2) "_law_form" (spForm K n) []
  | 0 => ⟨f, fd, ["_law_bag_here", "_law_words", "_law_deep"], [], ⟨fun vs H Q E h => absurd h (no_form0 vs H Q E), fun A outer s H args us vs Q E _ _ _ _ h => absurd h (no_form0 vs H Q E)⟩, m, F.kp, b, .nil⟩
  | n + 1 => ⟨f, fd, ["_law_bag_here", "_law_words", "_law_deep"], [], ok_form F cP cA (form_cal F b m cP cA n), m, F.kp, b, .nil⟩
end

section
variable {P : Program} {w : World} {K : PySem.W.Frag} {mg : Str → Option Value} {base : Heap}
/-! ### is_letter -/
def spLetter (K : PySem.W.Frag) : Sp := fun vs H Q _ => ∃ x ok, vs = [x] ∧ LetIs K H x ok ∧ Q (.bl ok) H
theorem scLetter : FnScope ["value"] ["value"] (defScope s_is_letter) := ⟨rfl, rfl, rfl, by decide +kernel, rfl, by decide +kernel, by decide +kernel⟩
theorem ok_letter {f : Addr} {fd : FuncData} (F : Fun K "is_letter" "is_letter" s_is_letter f fd) (M : NameM mg) : FnOk P w K mg base CX0 1 f fd ["value"] (spLetter K) := by
  refine F.ok scLetter (fun vs H Q E h => ?_) (fun cdv A outer s H vs Q E hr h => ?_)
  · obtain ⟨x, ok, rfl, _⟩ := h
    rfl
  obtain ⟨x, ok, rfl, h, q⟩ := h
  obtain ⟨tL, mL⟩ := M.letters
  refine ⟨_, pss_one (ps_ret (pe_and (pe_callB call_isi (by rfl) M.isi (by decide +kernel) (pa_cons (pv 0) (pa_cons (pe_bltn (v := .ty "str") (u := .type "str") (by rfl) M.str (by decide +kernel) rfl) pa_nil)))
    (pe_and (pe_cmpR op_eq (pe_callB call_len (by rfl) M.len boot_len (pa_cons (pv 0) pa_nil)) pe_int (nomark _)) (pe_one (pe_cmpR op_in_str (pv 0) (pe_glob (v := .str "abcdefghijklmnopqrstuvwxyz") (by rfl) mL ⟨_, rfl⟩) (by rfl)))))), ?_⟩
  rcases h with ⟨cs, rfl, hl, rfl⟩ | ⟨⟨t, ht, hk⟩, rfl⟩
  · refine ⟨_, rfl, _, .ty "str", _, .type "str", true, rfl, .ty _, .base (.str _), kit_ty (by decide +kernel), _, rfl, iteT ?_⟩
    refine ⟨_, rfl, _, (SX.S cs).length, rfl, ⟨by rw [SX.S_len]; exact small hl, rfl⟩, rfl, _, rfl, ?_⟩
    rw [SX.S_len]
    refine ite2 (fun c => ?_) (fun c => ?_)
    · have c1 : cs.length = 1 := by
        have z := of_decide_eq_true c
        injection z with z
        omega
      refine ⟨_, rfl, _, _, rfl, rfl, ?_⟩
      rw [abc_str, isLet_in cs c1]
      exact q
    · have e : isLet cs = false := by
        unfold isLet
        rw [decide_eq_false, Bool.false_and]
        intro z
        exact c (decide_eq_true (congrArg V.int (by rw [z]; rfl)))
      rw [e] at q
      exact q
  · refine ⟨_, rfl, _, .ty "str", _, .type "str", false, rfl, .ty _, ht, hk, _, rfl, iteF ?_⟩
    exact q
end

section
variable {P : Program} {w : World} {K : PySem.W.Frag} {mg : Str → Option Value} {base : Heap}
/-! ### is_name -/
def spName (K : PySem.W.Frag) : Sp := fun vs H Q _ => ∃ x ok, vs = [x] ∧ NameIs K H x ok ∧ ∀ H', Same H H' → Q (.bl ok) H'
theorem scName : FnScope ["value", "letter"] ["value"] (defScope s_is_name) := ⟨rfl, rfl, rfl, by decide +kernel, rfl, by decide +kernel, by decide +kernel⟩
theorem ok_name {f : Addr} {fd : FuncData} (F : Fun K "is_name" "is_name" s_is_name f fd) (cL : C8.Cal P w K mg base 1 "is_letter" (spLetter K) []) (M : NameM mg) : FnOk P w K mg base CX0 2 f fd ["value"] (spName K) := by
  refine F.ok scName (fun vs H Q E h => ?_) (fun cdv A outer s H vs Q E hr h => ?_)
  · obtain ⟨x, ok, rfl, _⟩ := h
    rfl
  obtain ⟨x, ok, rfl, h, q⟩ := h
  obtain ⟨tL, mL⟩ := M.longest
  have nd := scName.nd
  refine ⟨_, pss_cons (ps_if (PW.pt (pw_or (pt_not (pt_val (pe_callB call_isi (by rfl) M.isi (by decide +kernel) (pa_cons (pv 0) (pa_cons (pe_bltn (v := .ty "str") (u := .type "str") (by rfl) M.str (by decide +kernel) rfl) pa_nil)))))
      (pw_or1 (pt_not (pt_chain op_le op_le pe_int (pe_callB call_len (by rfl) M.len boot_len (pa_cons (pv 0) pa_nil)) (pe_glob (v := .int 6) (by rfl) mL ⟨_, rfl⟩)))))) (pss_one (ps_ret pe_bl)) pss_nil)
    (pss_one (ps_ret (pe_callB (cr_all rfl) (by rfl) M.all (by decide +kernel) (pa_cons (pe_lc (own := [("letter", 1)]) (g := gName 1) (tt := tYes) rfl nd (pi_str (pv 0))
      (blkOk_by (own := [("letter", 1)]) (N := ["value", "letter"]) (sc := defScope s_is_name) (by decide +kernel)) (fun _ _ _ _ _ => pg_name (i := 1) nd rfl (Or.inl rfl)) (fun _ _ _ _ _ => pts_nil)
      (fun _ _ _ _ _ => C8.pe_c cL hr (by decide) (by rfl) (pa_cons (pv 1) pa_nil))) pa_nil)))), ?_⟩
  rcases h with ⟨cs, rfl, hl, rfl⟩ | ⟨⟨t, ht, hk⟩, rfl⟩
  · refine ⟨_, rfl, _, .ty "str", _, .type "str", true, rfl, .ty _, .base (.str _), kit_ty (by decide +kernel), _, rfl, ?_⟩
    refine iteF ?_
    refine ⟨_, rfl, _, (SX.S cs).length, rfl, ⟨by rw [SX.S_len]; exact small hl, rfl⟩, _, _, rfl, rfl, _, rfl, ?_⟩
    rw [SX.S_len]
    have qf : isNm cs = false → Q (.bl false) H := fun e => by
      have z := q H (.refl H)
      rw [e] at z
      exact z
    refine ite2 (fun c1 => ?_) (fun c1 => ?_)
    · refine ⟨_, _, rfl, rfl, _, rfl, ite2 (fun c2 => ?_) (fun c2 => ?_)⟩
      · refine qf ?_
        unfold isNm
        rw [decide_eq_false (p := cs.length ≤ 6), Bool.and_false, Bool.false_and]
        intro z
        simp only [Bool.not_eq_true', decide_eq_false_iff_not] at c2
        omega
      · have c3 : cs.length ≤ 6 := by
          simp only [Bool.not_eq_true', decide_eq_false_iff_not] at c2
          omega
        have c4 : 1 ≤ cs.length := by
          have z := of_decide_eq_true c1
          omega
        have ez : (SX.S cs).cps.size = cs.length := by simp
        refine ⟨_, rfl, SX.S cs, rfl, fun D nD => ?_⟩
        refine lc_it (walk_str (z := SX.S cs)) (fun i H' => Same H H' ∧ H' D = some (.lst (((cs.take i).map fun c => decide (97 ≤ c) && decide (c < 123)).map V.bl))) ⟨same_new nD _, upd_same⟩ (fun _ _ _ _ => trivial) ?_ ?_
        · rintro i v H1 H2 hi ⟨g1, g2⟩ ⟨rfl, c, hc, rfl⟩
          have hc' : cs[i]? = some c := by simpa using hc
          have hil : i < cs.length := (List.getElem?_eq_some_iff.mp hc').1
          refine ⟨rfl, ?_⟩
          refine ⟨_, rfl, _, _, rfl, .inl ⟨[c], rfl, by show 1 ≤ 1000; decide, rfl⟩, ?_⟩
          have e1 : isLet [c] = (decide (97 ≤ c) && decide (c < 123)) := by simp [isLet]
          rw [e1]
          refine ⟨_, g2, (by rw [List.length_map, List.length_map, List.length_take]; exact small1000 (by omega)), fun b o hb => ?_, ?_⟩
          · rw [upd_ne (ne_of_none hb nD)]
            exact g1 _ _ hb
          · rw [upd_same, List.take_add_one, hc', List.map_append, List.map_append]
            rfl
        · rintro H' ⟨g1, g2⟩
          rw [ez, List.take_length] at g2
          refine ⟨D, cs.map fun c => decide (97 ≤ c) && decide (c < 123), rfl, SqL.of g2, ?_⟩
          have e2 : isNm cs = (cs.map fun c => decide (97 ≤ c) && decide (c < 123)).all id := by
            unfold isNm
            rw [decide_eq_true c3, decide_eq_true c4, List.all_map]
            rfl
          rw [← e2]
          exact q H' g1
    · refine ⟨_, rfl, iteT ?_⟩
      refine qf ?_
      unfold isNm
      rw [decide_eq_false (p := 1 ≤ cs.length), Bool.false_and, Bool.false_and]
      intro z
      exact c1 (decide_eq_true (by omega))
  · refine ⟨_, rfl, _, .ty "str", _, .type "str", false, rfl, .ty _, ht, hk, _, rfl, iteT (iteT ?_)⟩
    exact q H (.refl H)
end

end Ag

namespace Ag
open PySem PySem.Spec PyProof.Rows L2
section
variable {P : Program} {w : World} {K : PySem.W.Frag} {mg : Str → Option Value} {base : Heap}
/-! ### is_leaf -/
def spLeaf (K : PySem.W.Frag) : Sp := fun vs H Q _ => ∃ (x : V) (h : Bool) (t : Fm), vs = [x, .bl h] ∧ Fr K H x t ∧ Sml t ∧ ((∃ w, t = .atom w) ∨ ∃ c, t = .hole c) ∧ ∀ H', Same H H' → Q (.bl (isB 1 h t)) H'
theorem scLeaf : FnScope ["value", "holes"] ["value", "holes"] (defScope s_is_leaf) := ⟨rfl, rfl, rfl, by decide +kernel, rfl, by decide +kernel, by decide +kernel⟩
theorem ok_leaf {f : Addr} {fd : FuncData} (F : Fun K "is_leaf" "is_leaf" s_is_leaf f fd) (cN : C8.Cal P w K mg base 2 "is_name" (spName K) []) (cL : C8.Cal P w K mg base 1 "is_letter" (spLetter K) []) : FnOk P w K mg base CX0 3 f fd ["value", "holes"] (spLeaf K) := by
  refine F.ok scLeaf (fun vs H Q E h => ?_) (fun cdv A outer s H vs Q E hr h => ?_)
  · obtain ⟨x, h, t, rfl, _⟩ := h
    rfl
  obtain ⟨x, h, t, rfl, hx, hs, hk, q⟩ := h
  refine ⟨_, pss_cons (ps_if (pt_cmpR op_eq (pe_ix ix_tup (pv 0) pe_int (fun _ _ => rfl)) pe_str (nomark _)) (pss_one (ps_ret (C8.pe_c cN hr (by decide) (by rfl) (pa_cons (pe_ix ix_tup (pv 0) pe_int (fun _ _ => rfl)) pa_nil)))) pss_nil)
    (pss_one (ps_ret (pe_and (pv 1) (pe_and (pe_cmpR op_eq (pe_ix ix_tup (pv 0) pe_int (fun _ _ => rfl)) pe_str (nomark _)) (pe_one (C8.pe_c cL hr (by decide) (by rfl) (pa_cons (pe_ix ix_tup (pv 0) pe_int (fun _ _ => rfl)) pa_nil))))))), ?_⟩
  rcases hk with ⟨u, rfl⟩ | ⟨c, rfl⟩
  · obtain ⟨p, rfl, sp⟩ := fr_atom hx
    refine ⟨_, rfl, p, _, _, _, rfl, rfl, sp, rfl, rfl, _, rfl, iteU (decide_eq_true rfl) ?_⟩
    exact ⟨_, rfl, p, _, _, _, rfl, rfl, sp, rfl, _, _, rfl, name_is hs, q⟩
  · obtain ⟨p, rfl, sp⟩ := fr_hole hx
    refine ⟨_, rfl, p, _, _, _, rfl, rfl, sp, rfl, rfl, _, rfl, iteE (decide_eq_false (by decide)) ?_⟩
    refine ⟨_, rfl, h, rfl, ?_⟩
    cases h with
    | false => exact q H (.refl H)
    | true =>
      refine ⟨_, rfl, p, _, _, _, rfl, rfl, sp, rfl, rfl, _, rfl, iteU (decide_eq_true rfl) ?_⟩
      exact ⟨_, rfl, p, _, _, _, rfl, rfl, sp, rfl, _, _, rfl, .inl ⟨c, rfl, hs, rfl⟩, q H (.refl H)⟩
end

section
variable {P : Program} {w : World} {K : PySem.W.Frag} {mg : Str → Option Value} {base : Heap}
/-! ### is_built -/
structure BuiltM (K : PySem.W.Frag) (mg : Str → Option Value) : Prop where
  isi : mg "isinstance" = none
  tuple : mg "tuple" = none
  len : mg "len" = none
  all : mg "all" = none
  joints : ∃ a, mg "JOINTS" = some (.ref a) ∧ ∀ H, SqT K H a [.str "then", .str "and", .str "or"]
def spBuilt (K : PySem.W.Frag) (n : Nat) : Sp := fun vs H Q _ => ∃ (x : V) (d : Nat) (h : Bool) (t : Fm), vs = [x, .int (d : Int), .bl h] ∧ Fr K H x t ∧ Sml t ∧ d < n ∧ SeqAt.shaped t.dat = true ∧ ∀ H', Same H H' → Q (.bl (isB d h t)) H'
abbrev nBuilt : List Str := ["value", "depth", "holes", "side"]
theorem scBuilt : FnScope nBuilt ["value", "depth", "holes"] (defScope s_is_built) := ⟨rfl, rfl, rfl, by decide +kernel, rfl, by decide +kernel, by decide +kernel⟩
theorem ok_built {n : Nat} {f : Addr} {fd : FuncData} (F : Fun K "is_built" "is_built" s_is_built f fd) (cL : C8.Cal P w K mg base 3 "is_leaf" (spLeaf K) []) (cB : C8.Cal P w K mg base (n + 3) "is_built" (spBuilt K n) []) (M : BuiltM K mg) : FnOk P w K mg base CX0 (n + 4) f fd ["value", "depth", "holes"] (spBuilt K (n + 1)) := by
  refine F.ok scBuilt (fun vs H Q E h => ?_) (fun cdv A outer s H vs Q E hr h => ?_)
  · obtain ⟨x, d, h, t, rfl, _⟩ := h
    rfl
  obtain ⟨x, d, h, t, rfl, hx, hs, hd, hsh, q⟩ := h
  have nd := scBuilt.nd
  obtain ⟨aJ, mJ, hJ⟩ := M.joints
  refine ⟨_, pss_cons (ps_if (PW.pt (pw_or (pt_cmpR op_eq (pv 1) pe_int (nomark _)) (pw_or1 (pt_not (pt_val (pe_callB call_isi (by rfl) M.isi (by decide +kernel) (pa_cons (pv 0) (pa_cons (pe_bltn (v := .ty "tuple") (u := .type "tuple") (by rfl) M.tuple (by decide +kernel) rfl) pa_nil)))))))) (pss_one (ps_ret pe_bl)) pss_nil)
    (pss_cons (ps_if (pt_cmpR op_eq (pe_callB call_len_seq (by rfl) M.len boot_len (pa_cons (pv 0) pa_nil)) pe_int (nomark _))
      (pss_one (ps_ret (pe_and (pe_cmpR op_in_seq (pe_ix ix_tup (pv 0) pe_int (fun _ _ => rfl)) (pe_glob (v := .ref aJ) (by rfl) mJ rfl) (by with_unfolding_all rfl)) (pe_one (pe_callB (cr_all rfl) (by rfl) M.all (by decide +kernel) (pa_cons (pe_lc (own := [("side", 3)]) (g := gName 3) (tt := tYes) rfl nd (pi_tup (pe_slice sl_tup (pv 0) (po_some pe_int) po_none))
        (blkOk_by (own := [("side", 3)]) (N := nBuilt) (sc := defScope s_is_built) (by decide +kernel)) (fun _ _ _ _ _ => pg_name (i := 3) nd rfl (Or.inl rfl)) (fun _ _ _ _ _ => pts_nil) (fun _ _ _ _ _ => C8.pe_c cB hr (Nat.le_refl _) (by rfl) (pa_cons (pv 3) (pa_cons (pe_op op_sub (pv 1) pe_int) (pa_cons (pv 2) pa_nil))))) pa_nil)))))) pss_nil)
    (pss_cons (ps_if (pt_cmpR op_eq (pe_callB call_len_seq (by rfl) M.len boot_len (pa_cons (pv 0) pa_nil)) pe_int (nomark _)) (pss_one (ps_ret (C8.pe_c cL hr (by omega) (by rfl) (pa_cons (pv 0) (pa_cons (pv 2) pa_nil))))) pss_nil)
    (pss_one (ps_ret (pe_cmpR (op_eqD hr.units) (pv 0) (pe_tup (pa_cons pe_str pa_nil)) (nomark _)))))), ?_⟩
  refine ⟨_, rfl, rfl, _, rfl, ?_⟩
  by_cases h0 : d = 0
  · subst h0
    refine iteU (decide_eq_true rfl) (iteT ?_)
    exact q H (.refl H)
  · have hdd : decide (V.int (d : Int) = V.int 0) = false := decide_eq_false (fun z => h0 (by injection z with z; omega))
    refine iteE hdd ?_
    obtain ⟨p, rr, rfl, sp⟩ := fr_head hx
    have tx : TyX K H (.ref p) (.type "tuple") := by
      rcases sp with (z | ⟨o, z⟩) | ⟨o, its, k, e, c, _⟩
      · exact .base (.tup z)
      · exact .fTuple z
      · exact .kTuple e c
    refine ⟨_, rfl, .ref p, .ty "tuple", _, .type "tuple", true, rfl, .ty _, tx, kit_ty (by decide +kernel), _, rfl, iteE rfl ?_⟩
    obtain ⟨d', rfl⟩ : ∃ d', d = d' + 1 := ⟨d - 1, by omega⟩
    cases t with
    | fls =>
      obtain ⟨p', e, sp'⟩ := fr_fls hx
      cases e
      refine ⟨_, rfl, p, _, rfl, .inr sp', rfl, _, rfl, iteE (by decide) ?_⟩
      refine ⟨_, rfl, p, _, rfl, .inr sp', rfl, _, rfl, iteE (by decide) ?_⟩
      refine ⟨_, rfl, (by show 1 ≤ sizeLine; decide), fun u nu => ?_⟩
      have g1 := same_new nu (.tup [.str "false"])
      refine ⟨Fm.fls.dat, Fm.fls.dat, hx.same g1, mk_fls (SqT.of upd_same), by decide +kernel, by decide +kernel, ?_⟩
      rw [eqv_dat, decide_eq_true rfl]
      exact q _ g1
    | atom u =>
      obtain ⟨p', e, sp'⟩ := fr_atom hx
      cases e
      refine ⟨_, rfl, p, _, rfl, .inr sp', rfl, _, rfl, iteE (by show decide (V.int 2 = V.int 3) = false; decide) ?_⟩
      refine ⟨_, rfl, p, _, rfl, .inr sp', rfl, _, rfl, iteU (by show decide (V.int 2 = V.int 2) = true; decide) ?_⟩
      exact ⟨_, rfl, _, rfl, _, h, .atom u, rfl, hx, hs, .inl ⟨u, rfl⟩, q⟩
    | hole u =>
      obtain ⟨p', e, sp'⟩ := fr_hole hx
      cases e
      refine ⟨_, rfl, p, _, rfl, .inr sp', rfl, _, rfl, iteE (by show decide (V.int 2 = V.int 3) = false; decide) ?_⟩
      refine ⟨_, rfl, p, _, rfl, .inr sp', rfl, _, rfl, iteU (by show decide (V.int 2 = V.int 2) = true; decide) ?_⟩
      exact ⟨_, rfl, _, rfl, _, h, .hole u, rfl, hx, hs, .inr ⟨u, rfl⟩, q⟩
    | bin k a b =>
      obtain ⟨p', xa, xb, e, sp', fa, fb⟩ := fr_bin hx
      cases e
      refine ⟨_, rfl, p, _, rfl, .inr sp', rfl, _, rfl, iteU (by show decide (V.int 3 = V.int 3) = true; decide) ?_⟩
      refine ⟨_, rfl, p, _, _, _, rfl, rfl, sp', rfl, aJ, _, rfl, .inr (hJ H), rfl, rfl, _, rfl, iteU (kd_in k) ?_⟩
      refine ⟨_, rfl, 1, rfl, p, _, rfl, sp', (by show ¬ (1 = 0 ∧ _); omega), fun u nu => ?_⟩
      have g1 := same_new nu (.tup (cutV [.str (kd k), xa, xb] (some 1) none))
      have ec : cutV [.str (kd k), xa, xb] (some 1) none = [xa, xb] := rfl
      rw [ec] at g1 ⊢
      refine ⟨u, rfl, ⟨_, SqT.of upd_same⟩, fun D nD => ?_⟩
      have g2 := same_new nD (.lst [])
      have shab := shaped_bin hsh
      refine lc_tup (K := K) (a := u) (xs := [xa, xb]) (fun i H' => Same (upd H u (.tup [xa, xb])) H' ∧ H' D = some (.lst ((([isB d' h a, isB d' h b] : List Bool).take i).map V.bl))) ⟨g2, upd_same⟩ (fun i H' _ pv => SqT.of (pv.1 _ _ upd_same)) ?_ ?_
      · rintro i v H1 hv ⟨s1, hD⟩
        have hvt : ∃ t', Fr K H1 v t' ∧ Sml t' ∧ SeqAt.shaped t'.dat = true ∧ ([isB d' h a, isB d' h b] : List Bool)[i]? = some (isB d' h t') := by
          match i, hv with
          | 0, hv => cases hv; exact ⟨a, fa.same (g1.trans s1), hs.1, shab.1, rfl⟩
          | 1, hv => cases hv; exact ⟨b, fb.same (g1.trans s1), hs.2, shab.2, rfl⟩
          | i + 2, hv => simp at hv
        obtain ⟨t', ft, st, sht, hb⟩ := hvt
        have hi2 : i < 2 := (List.getElem?_eq_some_iff.mp hv).1
        refine ⟨rfl, ?_⟩
        refine ⟨_, rfl, _, rfl, _, _, rfl, rfl, _, rfl, v, d', h, t', ?_, ft, st, by omega, sht, fun H2 s2 => ?_⟩
        · have e : ((d' + 1 : Nat) : Int) - 1 = (d' : Int) := by omega
          show [v, V.int (((d' + 1 : Nat) : Int) - 1), V.bl h] = _
          rw [e]
        · refine ⟨_, s2 _ _ hD, (by rw [List.length_map, List.length_take]; exact small1000 (by omega)), fun c o hc => ?_, ?_⟩
          · rw [upd_ne (ne_of_none hc nD)]
            exact s2 _ _ (s1 _ _ hc)
          · rw [upd_same, List.take_add_one, hb, List.map_append]
            rfl
      · rintro H1 ⟨s1, hD⟩
        refine ⟨D, [isB d' h a, isB d' h b], rfl, SqL.of hD, ?_⟩
        have e : ([isB d' h a, isB d' h b] : List Bool).all id = isB (d' + 1) h (.bin k a b) := by
          show (isB d' h a && (isB d' h b && true)) = (isB d' h a && isB d' h b)
          rw [Bool.and_true]
        rw [e]
        exact q _ (g1.trans s1)
theorem no_built0 (vs : List V) (H : Hp) (Q : VK) (E : XK) : ¬ spBuilt K 0 vs H Q E := by
  rintro ⟨x, d, h, t, _, _, _, h0, _⟩
  omega
theorem built_cal {f : Addr} {fd : FuncData} (D : Df K mg "is_built" s_is_built ["value", "depth", "holes"] f fd) (cL : C8.Cal P w K mg base 3 "is_leaf" (spLeaf K) []) (M : BuiltM K mg) : ∀ n : Nat, C8.Cal P w K mg base (n + 3) "is_built" (spBuilt K n) []
  | 0 => D.cal ⟨fun vs H Q E h => absurd h (no_built0 vs H Q E), fun A outer s H args us vs Q E _ _ _ _ h => absurd h (no_built0 vs H Q E)⟩
  | n + 1 => D.cal (ok_built D.fn cL (built_cal D cL M n) M)
/-! ### is_formula -/
def spFormula (K : PySem.W.Frag) : Sp := fun vs H Q _ => ∃ (x : V) (t : Fm), vs = [x] ∧ Fr K H x t ∧ Sml t ∧ SeqAt.shaped t.dat = true ∧ ∀ H', Same H H' → Q (.bl (isB 10 false t)) H'
theorem scFormula : FnScope ["value"] ["value"] (defScope s_is_formula) := ⟨rfl, rfl, rfl, by decide +kernel, rfl, by decide +kernel, by decide +kernel⟩
theorem ok_formula {f : Addr} {fd : FuncData} (F : Fun K "is_formula" "is_formula" s_is_formula f fd) (cB : C8.Cal P w K mg base 14 "is_built" (spBuilt K 11) []) (mD : ∃ t, mg "FORMULA_DEPTH" = some (.int 10 t)) : FnOk P w K mg base CX0 15 f fd ["value"] (spFormula K) := by
  refine F.ok scFormula (fun vs H Q E h => ?_) (fun cdv A outer s H vs Q E hr h => ?_)
  · obtain ⟨x, t, rfl, _⟩ := h
    rfl
  obtain ⟨x, t, rfl, hx, hs, hsh, q⟩ := h
  obtain ⟨tD, mD⟩ := mD
  refine ⟨_, pss_one (ps_ret (C8.pe_c cB hr (by decide) (by rfl) (pa_cons (pv 0) (pa_cons (pe_glob (v := .int 10) (by rfl) mD ⟨_, rfl⟩) (pa_cons pe_bl pa_nil))))), ?_⟩
  exact ⟨_, rfl, x, 10, false, t, rfl, hx, hs, by decide, hsh, q⟩
end

end Ag

namespace Ag
open PySem PySem.Spec PyProof.Rows L2
section
variable {P : Program} {w : World} {K : PySem.W.Frag} {mg : Str → Option Value} {base : Heap}
/-! ### is_row -/
def spRow (K : PySem.W.Frag) : Sp := fun vs H Q _ => ∃ (x : V) (r : Row), vs = [x] ∧ RowAt K H x r ∧ Rok r ∧ ∀ H', Same H H' → Q (.bl (isRw r)) H'
theorem scRow : FnScope ["value"] ["value"] (defScope s_is_row) := ⟨rfl, rfl, rfl, by decide +kernel, rfl, by decide +kernel, by decide +kernel⟩
theorem ok_row {f : Addr} {fd : FuncData} (F : Fun K "is_row" "is_row" s_is_row f fd) (cN : C8.Cal P w K mg base 2 "is_name" (spName K) []) (cF : C8.Cal P w K mg base 15 "is_formula" (spFormula K) []) (mI : mg "isinstance" = none) (mT : mg "tuple" = none) (mL : mg "len" = none) : FnOk P w K mg base CX0 16 f fd ["value"] (spRow K) := by
  refine F.ok scRow (fun vs H Q E h => ?_) (fun cdv A outer s H vs Q E hr h => ?_)
  · obtain ⟨x, r, rfl, _⟩ := h
    rfl
  obtain ⟨x, r, rfl, hx, ok, q⟩ := h
  refine ⟨_, pss_cons (ps_if (PW.pt (pw_or (pt_not (pt_val (pe_callB call_isi (by rfl) mI (by decide +kernel) (pa_cons (pv 0) (pa_cons (pe_bltn (v := .ty "tuple") (u := .type "tuple") (by rfl) mT (by decide +kernel) rfl) pa_nil))))) (pw_or1 (pt_cmpR op_ne (pe_callB call_len_seq (by rfl) mL boot_len (pa_cons (pv 0) pa_nil)) pe_int (nomark _))))) (pss_one (ps_ret pe_bl)) pss_nil)
    (pss_one (ps_ret (pe_and (C8.pe_c cN hr (by decide) (by rfl) (pa_cons (pe_ix ix_tup (pv 0) pe_int (fun _ _ => rfl)) pa_nil)) (pe_one (C8.pe_c cF hr (by decide) (by rfl) (pa_cons (pe_ix ix_tup (pv 0) pe_int (fun _ _ => rfl)) pa_nil)))))), ?_⟩
  obtain ⟨p, y, rfl, sp, fy⟩ := row_at hx
  have tx : TyX K H (.ref p) (.type "tuple") := dp_tyx hx
  refine ⟨_, rfl, .ref p, .ty "tuple", _, .type "tuple", true, rfl, .ty _, tx, kit_ty (by decide +kernel), _, rfl, iteE rfl ?_⟩
  refine ⟨_, rfl, p, _, rfl, .inr sp, rfl, _, rfl, iteE (by show (!decide (V.int 2 = V.int 2)) = false; decide) ?_⟩
  refine ⟨_, rfl, p, _, _, _, rfl, rfl, sp, rfl, _, _, rfl, name_is ok.len, fun H1 s1 => ?_⟩
  refine ⟨_, rfl, ?_⟩
  unfold isRw at q
  cases e : isNm r.1 with
  | false =>
    rw [e] at q
    exact q H1 s1
  | true =>
    rw [e] at q
    exact ⟨_, rfl, p, _, _, _, rfl, rfl, sameT s1 sp, rfl, _, _, rfl, fy.same s1, ok.sml, ok.shp, fun H2 s2 => q H2 (s1.trans s2)⟩
end

end Ag

namespace Ag
open PySem PySem.Spec PyProof.Rows L2
section
variable {P : Program} {w : World} {K : PySem.W.Frag} {mg : Str → Option Value} {base : Heap} {CK CC fK fC : Addr} {mc : Value}
/-! ### KnownRows(..) -/
def spKn (K : PySem.W.Frag) (CK : Addr) : Sp := fun vs H Q _ => ∃ (x p dx : Addr) (ys : List V), vs = [.ref x, .ref p] ∧ H x = some (.ins CK dx []) ∧ RowsIn K H p ys ∧
  ∀ (a : Addr) (H' : Hp), HeldAt CK H' x a → SqT K H' a ys → Kp x H H' → Q .non H'
theorem scKn : FnScope ["self", "rows"] ["self", "rows"] (defScope s_KnownRows_init) := ⟨rfl, rfl, rfl, by decide +kernel, rfl, by decide +kernel, by decide +kernel⟩
theorem ok_kn {f : Addr} {fd : FuncData} (F : Fun K "__init__" "KnownRows.__init__" s_KnownRows_init f fd) (M : CtxM K mg CK CC fK fC mc) : FnOk P w K mg base CX0 1 f fd ["self", "rows"] (spKn K CK) := by
  refine F.ok scKn (fun vs H Q E h => ?_) (fun cdv A outer s H vs Q E hr h => ?_)
  · obtain ⟨x, p, dx, ys, rfl, _⟩ := h
    rfl
  obtain ⟨x, p, dx, ys, rfl, hx, hp, q⟩ := h
  refine ⟨_, pss_one (ps_fld (pv 0) (pe_callTy call_tuple_of (by rfl) M.tuple boot_tuple (pa_cons (pv 1) pa_nil)) rfl), ?_⟩
  refine ⟨_, rfl, p, ys, rfl, ?_⟩
  rcases hp with hp | hp
  · refine .inl ⟨hp, fun a na => ?_⟩
    have nax : a ≠ x := (ne_of_none hx na).symm
    refine ⟨_, rfl, x, CK, dx, [], rfl, (by rw [upd_ne nax.symm]; exact hx), M.cK, M.nK, (by show 0 < 1000; decide), ?_⟩
    refine q a _ ⟨dx, upd_same⟩ (SqT.of (by rw [upd_ne nax, upd_same])) fun c o hc hn => ?_
    rw [upd_ne hn, upd_ne (ne_of_none hc na)]
    exact hc
  · refine .inr ⟨hp, ?_⟩
    refine ⟨_, rfl, x, CK, dx, [], rfl, hx, M.cK, M.nK, (by show 0 < 1000; decide), ?_⟩
    have k : Kp x H (upd H x (.ins CK dx (putF "held" (.ref p) []))) := kp_upd
    exact q p _ ⟨dx, upd_same⟩ (insT hx k hp) k
/-! ### tested_rows -/
def spTested (K : PySem.W.Frag) (CK : Addr) : Sp := fun vs H Q _ => ∃ (p : Addr) (ys : List V) (rs : List Row), vs = [.ref p] ∧ RowsIn K H p ys ∧ RowsAt K H ys rs ∧ (∀ r ∈ rs, Rok r ∧ isRw r = true) ∧
  ∀ (x a : Addr) (H' : Hp), HeldAt CK H' x a → SqT K H' a ys → Same H H' → Q (.ref x) H'
theorem scTested : FnScope ["rows", "at", "row"] ["rows"] (defScope s_tested_rows) := ⟨rfl, rfl, rfl, by decide +kernel, rfl, by decide +kernel, by decide +kernel⟩
theorem ok_tested {f : Addr} {fd fdK : FuncData} (F : Fun K "tested_rows" "tested_rows" s_tested_rows f fd) (cR : C8.Cal P w K mg base 16 "is_row" (spRow K) []) (GK : FnOk P w K mg base CX0 1 fK fdK ["self", "rows"] (spKn K CK)) (bK : Binds K fdK ["self", "rows"] []) (M : CtxM K mg CK CC fK fC mc) : FnOk P w K mg base CX0 17 f fd ["rows"] (spTested K CK) := by
  refine F.ok scTested (fun vs H Q E h => ?_) (fun cdv A outer s H vs Q E hr h => ?_)
  · obtain ⟨p, ys, rs, rfl, _⟩ := h
    rfl
  obtain ⟨p, ys, rs, rfl, hp, hy, hok, q⟩ := h
  have nd := scTested.nd
  refine ⟨_, pss_cons (ps_for PassesOwn.never rfl (pi_enumA (by rfl) M.enum (pa_cons (pv 0) pa_nil)) (pg_tup rfl (pgs_cons (pg_name (i := 1) nd rfl (.inl rfl)) (pgs_cons (pg_name (i := 2) nd rfl (.inl rfl)) pgs_nil)))
      (pss_one (ps_if (pt_not (pt_val (C8.pe_c cR hr (by decide) (by rfl) (pa_cons (pv 2) pa_nil)))) (pss_one ps_never) pss_nil)))
    (pss_one (ps_ret (pe_make M.kK GK (hr.mono (by decide)) (by rfl) M.gK bK .nil pass0 (pa_cons (pv 0) pa_nil)))), ?_⟩
  have turn : ∀ (i : Nat) (v : V) (H' : Hp), ys[i]? = some v → Same H H' → ∃ r, RowAt K H' v r ∧ Rok r ∧ isRw r = true := fun i v H' hi s1 => by
    obtain ⟨r, hr1, hr2⟩ := rows_at hy hi
    obtain ⟨o1, o2⟩ := hok r (List.mem_of_getElem? hr1)
    exact ⟨r, hr2.same s1, o1, o2⟩
  have fin : ∀ H1 : Hp, Same H H1 → ∀ x dx, H1 x = none → H1 dx = none → dx ≠ x → spKn K CK [.ref x, .ref p] (upd (upd H1 dx (.own x)) x (.ins CK dx [])) (fun v H2 => v = .non ∧ Q (.ref x) H2) E := fun H1 s1 x dx n1 n2 n3 => by
    have s2 : Same H1 (upd (upd H1 dx (.own x)) x (.ins CK dx [])) := fun b o e => by
      rw [upd_ne (ne_of_none e n1), upd_ne (ne_of_none e n2)]
      exact e
    refine ⟨x, p, dx, ys, rfl, upd_same, hp.same (s1.trans s2), fun a H2 h1 h2 k => ⟨rfl, q x a H2 h1 h2 fun c o e => ?_⟩⟩
    exact k c o ((s1.trans s2) c o e) (ne_of_none (s1 c o e) n1)
  rcases hp with hp | hp
  · refine ⟨_, rfl, p, ys, rfl, .inl ⟨hp, for_it walk_enum (fun i σ H' => ∃ v1 v2, σ = [some (.ref p), v1, v2] ∧ Same H H') ⟨none, none, rfl, .refl H⟩ (fun i σ H' _ ⟨_, _, _, s1⟩ => s1.seq hp) ?_ ?_⟩⟩
    · rintro i y σ H1 H2 hi ⟨v1, v2, rfl, s1⟩ ⟨T, a, x, rfl, nT, rfl, ea, ex⟩
      cases ea
      have s2 := s1.trans (same_new nT (.tup [.int i, x]))
      obtain ⟨r, h1, h2, h3⟩ := turn i x _ ex s2
      refine ⟨T, _, rfl, SqT.of upd_same, rfl, _, _, rfl, _, _, rfl, rfl, ?_⟩
      refine ⟨_, rfl, x, r, rfl, h1, h2, fun H3 s3 => ?_⟩
      rw [h3]
      exact ⟨_, rfl, iteE rfl ⟨_, _, rfl, s2.trans s3⟩⟩
    · rintro σ H1 ⟨v1, v2, rfl, s1⟩
      exact ⟨_, rfl, fin H1 s1⟩
  · refine ⟨_, rfl, p, ys, rfl, .inr ⟨hp, for_it walk_enumT (fun i σ H' => ∃ v1 v2, σ = [some (.ref p), v1, v2] ∧ Same H H') ⟨none, none, rfl, .refl H⟩ (fun i σ H' _ ⟨_, _, _, s1⟩ => sameT s1 hp) ?_ ?_⟩⟩
    · rintro i y σ H1 H2 hi ⟨v1, v2, rfl, s1⟩ ⟨T, a, x, rfl, nT, rfl, ea, ex⟩
      cases ea
      have s2 := s1.trans (same_new nT (.tup [.int i, x]))
      obtain ⟨r, h1, h2, h3⟩ := turn i x _ ex s2
      refine ⟨T, _, rfl, SqT.of upd_same, rfl, _, _, rfl, _, _, rfl, rfl, ?_⟩
      refine ⟨_, rfl, x, r, rfl, h1, h2, fun H3 s3 => ?_⟩
      rw [h3]
      exact ⟨_, rfl, iteE rfl ⟨_, _, rfl, s2.trans s3⟩⟩
    · rintro σ H1 ⟨v1, v2, rfl, s1⟩
      exact ⟨_, rfl, fin H1 s1⟩
/-! ### Context(..) -/
def spCtx (K : PySem.W.Frag) (CC : Addr) : Sp := fun vs H Q _ => ∃ (x p dx : Addr) (ys : List V) (rs : List Row), vs = [.ref x, .ref p] ∧ H x = some (.ins CC dx []) ∧ RowsIn K H p ys ∧ RowsAt K H ys rs ∧ (∀ r ∈ rs, Rok r ∧ isRw r = true) ∧ rs.length ≤ 40 ∧
  (∃ t, TyX K H (.ref p) (.type t) ∧ (t = "list" ∨ t = "tuple")) ∧ ∀ (H' : Hp), CtxAt K CC H' x rs → Kp x H H' → Q .non H'
abbrev nCtx : List Str := ["self", "rows", "known"]
theorem scCtx : FnScope nCtx ["self", "rows"] (defScope s_Context_init) := ⟨rfl, rfl, rfl, by decide +kernel, rfl, by decide +kernel, by decide +kernel⟩
theorem ok_ctx {f : Addr} {fd : FuncData} {dv : List V} (F : FunD K "__init__" "Context.__init__" (defArgs s_Context_init) (defBody s_Context_init) (defScope s_Context_init) dv [] f fd) (cT : C8.Cal P w K mg base 17 "tested_rows" (spTested K CK) []) (M : CtxM K mg CK CC fK fC mc) : FnOk P w K mg base CX0 18 f fd ["self", "rows"] (spCtx K CC) := by
  refine F.ok scCtx (fun vs H Q E h => ?_) (fun cdv A outer s H vs Q E hr h => ?_)
  · obtain ⟨x, p, dx, ys, rs, rfl, _⟩ := h
    rfl
  obtain ⟨x, p, dx, ys, rs, rfl, hx, hp, hy, hok, h40, ⟨t, tx, ht⟩, q⟩ := h
  have nd := scCtx.nd
  obtain ⟨uM, mM⟩ := M.mo
  refine ⟨_, pss_cons (ps_set (i := 2) nd rfl (.inl rfl) (pe_ifExp (pt_val (pe_callB call_isi (by rfl) M.isi (by decide +kernel) (pa_cons (pv 1) (pa_cons (pe_glob (v := .ref CK) (by rfl) M.gK rfl) pa_nil)))) (pv 1) (C8.pe_c cT hr (by decide) (by rfl) (pa_cons (pv 1) pa_nil))))
    (pss_cons (ps_if (pt_cmpR op_gt (pe_callB call_len_seq (by rfl) M.len boot_len (pa_cons (pe_fld (pv 2) rfl) pa_nil)) (ClX.pe_cval (pe_glob (v := .ref CC) (by rfl) M.gC rfl)) (nomark _)) (pss_one ps_never) pss_nil)
    (pss_one (ps_fld (pv 0) (pe_fld (pv 2) rfl) rfl))), ?_⟩
  have kt : PySem.W.kitOne K (.type t) (.ref CK) = some false := by
    rcases ht with rfl | rfl
    · exact M.il
    · exact M.it
  refine ⟨_, rfl, .ref p, .ref CK, _, .ref CK, false, rfl, .own _, tx, kt, _, rfl, iteE rfl ?_⟩
  refine ⟨_, rfl, p, ys, rs, rfl, hp, hy, hok, fun k a H1 hk ha s1 => ?_⟩
  obtain ⟨dk, ek⟩ := hk
  refine ⟨_, rfl, k, CK, dk, _, _, rfl, ek, M.cK, M.nK, lk1, ?_⟩
  refine ⟨a, ys, rfl, .inr ha, CC, mc, .int 40, uM, rfl, M.rd, mM, _, _, rfl, rfl, _, rfl, iteE ?_ ?_⟩
  · have e : ys.length = rs.length := Paired.length hy
    show decide ((40 : Int) < (ys.length : Int)) = false
    exact decide_eq_false (by omega)
  · refine ⟨_, rfl, k, CK, dk, _, _, rfl, ek, M.cK, M.nK, lk1, ?_⟩
    have ex := s1 _ _ hx
    refine ⟨_, rfl, x, CC, dx, [], rfl, ex, M.cC, M.nC, (by show 0 < 1000; decide), ?_⟩
    have kk : Kp x H1 (upd H1 x (.ins CC dx (putF "held" (.ref a) []))) := kp_upd
    exact q _ ⟨a, ys, ⟨dx, upd_same⟩, insT ex kk ha, (hy.same s1).tp (insTp ex kk)⟩ fun c o e hn => kk c o (s1 c o e) hn
end

end Ag

namespace Ag
open PySem PySem.Spec PyProof.Rows L2
section
variable {P : Program} {w : World} {K : PySem.W.Frag} {mg : Str → Option Value} {base : Heap} {CK CC fK fC : Addr} {mc : Value}
/-! ### Context(KnownRows(..)) -/
def spCtxK (K : PySem.W.Frag) (CK CC : Addr) : Sp := fun vs H Q _ => ∃ (x k a dx : Addr) (ys : List V), vs = [.ref x, .ref k] ∧ H x = some (.ins CC dx []) ∧ HeldAt CK H k a ∧ SqT K H a ys ∧ ys.length ≤ 40 ∧
  ∀ (H' : Hp), HeldAt CC H' x a → SqT K H' a ys → Kp x H H' → Q .non H'
theorem ok_ctxK {f : Addr} {fd : FuncData} {dv : List V} (F : FunD K "__init__" "Context.__init__" (defArgs s_Context_init) (defBody s_Context_init) (defScope s_Context_init) dv [] f fd) (cT : C8.Cal P w K mg base 17 "tested_rows" (spTested K CK) []) (M : CtxM K mg CK CC fK fC mc) : FnOk P w K mg base CX0 18 f fd ["self", "rows"] (spCtxK K CK CC) := by
  refine F.ok scCtx (fun vs H Q E h => ?_) (fun cdv A outer s H vs Q E hr h => ?_)
  · obtain ⟨x, k, a, dx, ys, rfl, _⟩ := h
    rfl
  obtain ⟨x, k, a, dx, ys, rfl, hx, hk, ha, h40, q⟩ := h
  have nd := scCtx.nd
  obtain ⟨uM, mM⟩ := M.mo
  refine ⟨_, pss_cons (ps_set (i := 2) nd rfl (.inl rfl) (pe_ifExp (pt_val (pe_callB call_isi (by rfl) M.isi (by decide +kernel) (pa_cons (pv 1) (pa_cons (pe_glob (v := .ref CK) (by rfl) M.gK rfl) pa_nil)))) (pv 1) (C8.pe_c cT hr (by decide) (by rfl) (pa_cons (pv 1) pa_nil))))
    (pss_cons (ps_if (pt_cmpR op_gt (pe_callB call_len_seq (by rfl) M.len boot_len (pa_cons (pe_fld (pv 2) rfl) pa_nil)) (ClX.pe_cval (pe_glob (v := .ref CC) (by rfl) M.gC rfl)) (nomark _)) (pss_one ps_never) pss_nil)
    (pss_one (ps_fld (pv 0) (pe_fld (pv 2) rfl) rfl))), ?_⟩
  obtain ⟨dk, ek⟩ := hk
  refine ⟨_, rfl, .ref k, .ref CK, _, .ref CK, true, rfl, .own _, .base (TyOf.ins ek M.cK M.ha M.hn M.tk M.mr), M.ik, _, rfl, iteU rfl ?_⟩
  refine ⟨_, rfl, ?_⟩
  refine ⟨_, rfl, k, CK, dk, _, _, rfl, ek, M.cK, M.nK, lk1, ?_⟩
  refine ⟨a, ys, rfl, .inr ha, CC, mc, .int 40, uM, rfl, M.rd, mM, _, _, rfl, rfl, _, rfl, iteE (decide_eq_false (by omega)) ?_⟩
  refine ⟨_, rfl, k, CK, dk, _, _, rfl, ek, M.cK, M.nK, lk1, ?_⟩
  refine ⟨_, rfl, x, CC, dx, [], rfl, hx, M.cC, M.nC, (by show 0 < 1000; decide), ?_⟩
  have kk : Kp x H (upd H x (.ins CC dx (putF "held" (.ref a) []))) := kp_upd
  exact q _ ⟨dx, upd_same⟩ (insT hx kk ha) kk
/-! ### rows -/
def spRws (K : PySem.W.Frag) (CC : Addr) : Sp := fun vs H Q _ => ∃ (x a : Addr) (ys : List V), vs = [.ref x] ∧ HeldAt CC H x a ∧ SqT K H a ys ∧ ∀ p, H p = none → Q (.ref p) (upd H p (.lst ys))
theorem scRws : FnScope ["self"] ["self"] (defScope s_Context_rows) := ⟨rfl, rfl, rfl, by decide +kernel, rfl, by decide +kernel, by decide +kernel⟩
theorem ok_rws {f : Addr} {fd : FuncData} (F : Fun K "rows" "Context.rows" s_Context_rows f fd) (M : CtxM K mg CK CC fK fC mc) (ml : mg "list" = none) : FnOk P w K mg base CX0 1 f fd ["self"] (spRws K CC) := by
  refine F.ok scRws (fun vs H Q E h => ?_) (fun cdv A outer s H vs Q E hr h => ?_)
  · obtain ⟨x, a, ys, rfl, _⟩ := h
    rfl
  obtain ⟨x, a, ys, rfl, ⟨dx, ex⟩, ha, q⟩ := h
  refine ⟨_, pss_one (ps_ret (pe_callTy call_list_of (by rfl) ml (by decide +kernel) (pa_cons (pe_fld (pv 0) rfl) pa_nil))), ?_⟩
  exact ⟨_, rfl, x, CC, dx, _, _, rfl, ex, M.cC, M.nC, lk1, a, ys, rfl, .inr ha, q⟩
/-! ### + -/
def spAdd (K : PySem.W.Frag) (CC : Addr) : Sp := fun vs H Q _ => ∃ (x y a b : Addr) (xs ys : List V), vs = [.ref x, .ref y] ∧ HeldAt CC H x a ∧ SqT K H a xs ∧ HeldAt CC H y b ∧ SqT K H b ys ∧ xs.length + ys.length ≤ 40 ∧
  ∀ (z p : Addr) (H' : Hp), HeldAt CC H' z p → SqT K H' p (xs ++ ys) → Same H H' → Q (.ref z) H'
theorem scAdd : FnScope ["self", "other"] ["self", "other"] (defScope s_Context_add) := ⟨rfl, rfl, rfl, by decide +kernel, rfl, by decide +kernel, by decide +kernel⟩
/-- what isinstance asks of Context -/
structure CtxI (K : PySem.W.Frag) (CC : Addr) : Prop where
  ha : PySem.W.findIn K (.ref CC) "__class__" = some (some (.builtin "object.__class__"))
  mr : PySem.W.mroIn K CC (.type "object") = some true
theorem ok_add {f : Addr} {fd fdC fdK : FuncData} (F : Fun K "__add__" "Context.__add__" s_Context_add f fd) (GC : FnOk P w K mg base CX0 18 fC fdC ["self", "rows"] (spCtxK K CK CC)) (bC : Binds K fdC ["self", "rows"] [])
    (GK : FnOk P w K mg base CX0 1 fK fdK ["self", "rows"] (spKn K CK)) (bK : Binds K fdK ["self", "rows"] []) (M : CtxM K mg CK CC fK fC mc) (I : CtxI K CC) : FnOk P w K mg base CX0 20 f fd ["self", "other"] (spAdd K CC) := by
  refine F.ok scAdd (fun vs H Q E h => ?_) (fun cdv A outer s H vs Q E hr h => ?_)
  · obtain ⟨x, y, a, b, xs, ys, rfl, _⟩ := h
    rfl
  obtain ⟨x, y, a, b, xs, ys, rfl, ⟨dx, ex⟩, ha, ⟨dy, ey⟩, hb, h40, q⟩ := h
  refine ⟨_, pss_cons (ps_if (pt_not (pt_val (pe_callB call_isi (by rfl) M.isi (by decide +kernel) (pa_cons (pv 1) (pa_cons (pe_glob (v := .ref CC) (by rfl) M.gC rfl) pa_nil))))) (pss_one ps_never) pss_nil)
    (pss_one (ps_ret (pe_make M.kC GC (hr.mono (by decide)) (by rfl) M.gC bC .nil pass0 (pa_cons (pe_make M.kK GK (hr.mono (by decide)) (by rfl) M.gK bK .nil pass0 (pa_cons (pe_op op_catA (pe_fld (pv 0) rfl) (pe_fld (pv 1) rfl)) pa_nil)) pa_nil)))), ?_⟩
  refine ⟨_, rfl, .ref y, .ref CC, _, .ref CC, true, rfl, .own _, .base (TyOf.ins ey M.cC I.ha M.hn M.tk I.mr), (if_pos (beq_self_eq_true _)), _, rfl, iteE rfl ?_⟩
  refine ⟨_, rfl, x, CC, dx, _, _, rfl, ex, M.cC, M.nC, lk1, _, rfl, y, CC, dy, _, _, rfl, ey, M.cC, M.nC, lk1, ?_⟩
  refine catA_of ha hb (small (by omega)) fun p H1 s1 hp => ?_
  intro k dk nk ndk nek
  have t1 := made0 (C := CK) nk ndk
  refine ⟨k, p, dk, xs ++ ys, rfl, upd_same, .inr (sameT t1 hp), fun a2 H2 hk ha2 kk => ⟨rfl, ?_⟩⟩
  have s2 := made1 nk ndk kk
  intro z dz nz ndz nez
  have t3 := made0 (C := CC) nz ndz
  refine ⟨z, k, a2, dz, xs ++ ys, rfl, upd_same, hk.same t3, sameT t3 ha2, by rw [List.length_append]; exact h40, fun H3 hz ha3 k3 => ⟨rfl, ?_⟩⟩
  exact q z a2 H3 hz ha3 (s1.trans (s2.trans (made1 nz ndz k3)))
/-! ### is_number, is_place -/
def spNumber : Sp := fun vs H Q _ => ∃ n : Int, vs = [.int n] ∧ Q (.bl true) H
theorem scNumber : FnScope ["value"] ["value"] (defScope s_is_number) := ⟨rfl, rfl, rfl, by decide +kernel, rfl, by decide +kernel, by decide +kernel⟩
theorem ok_number {f : Addr} {fd : FuncData} (F : Fun K "is_number" "is_number" s_is_number f fd) (mI : mg "isinstance" = none) (mi : mg "int" = none) (mb : mg "bool" = none) : FnOk P w K mg base CX0 1 f fd ["value"] spNumber := by
  refine F.ok scNumber (fun vs H Q E h => ?_) (fun cdv A outer s H vs Q E hr h => ?_)
  · obtain ⟨n, rfl, _⟩ := h
    rfl
  obtain ⟨n, rfl, q⟩ := h
  refine ⟨_, pss_one (ps_ret (pe_and (pe_callB call_isi (by rfl) mI (by decide +kernel) (pa_cons (pv 0) (pa_cons (pe_bltn (v := .ty "int") (u := .type "int") (by rfl) mi (by decide +kernel) rfl) pa_nil))) (pe_one (pe_not (pe_callB call_isi (by rfl) mI (by decide +kernel) (pa_cons (pv 0) (pa_cons (pe_bltn (v := .ty "bool") (u := .type "bool") (by rfl) mb (by decide +kernel) rfl) pa_nil))))))), ?_⟩
  refine ⟨_, rfl, .int n, .ty "int", _, .type "int", true, rfl, .ty _, .base (.int n), kit_ty (by decide +kernel), _, rfl, ?_⟩
  exact ⟨_, rfl, .int n, .ty "bool", _, .type "bool", false, rfl, .ty _, .base (.int n), kit_ty (by decide +kernel), _, rfl, q⟩
def spPlace : Sp := fun vs H Q _ => ∃ n m : Int, vs = [.int n, .int m] ∧ 0 ≤ n ∧ n < m ∧ Q (.bl true) H
theorem scPlace : FnScope ["value", "many"] ["value", "many"] (defScope s_is_place) := ⟨rfl, rfl, rfl, by decide +kernel, rfl, by decide +kernel, by decide +kernel⟩
theorem ok_place {f : Addr} {fd : FuncData} (F : Fun K "is_place" "is_place" s_is_place f fd) (cN : C8.Cal P w K mg base 1 "is_number" spNumber []) : FnOk P w K mg base CX0 2 f fd ["value", "many"] spPlace := by
  refine F.ok scPlace (fun vs H Q E h => ?_) (fun cdv A outer s H vs Q E hr h => ?_)
  · obtain ⟨n, m, rfl, _⟩ := h
    rfl
  obtain ⟨n, m, rfl, h0, hm, q⟩ := h
  refine ⟨_, pss_one (ps_ret (pe_and (C8.pe_c cN hr (by decide) (by rfl) (pa_cons (pv 0) pa_nil)) (pe_one (pe_chain op_le op_lt pe_int (pv 0) (pv 1))))), ?_⟩
  refine ⟨_, rfl, n, rfl, _, rfl, ?_⟩
  refine ⟨_, rfl, _, _, rfl, rfl, _, rfl, iteU (decide_eq_true h0) ?_⟩
  refine ⟨_, rfl, _, _, rfl, rfl, ?_⟩
  show Q (V.bl (decide (n < m))) H
  rw [decide_eq_true hm]
  exact q
/-! ### with_row -/
def spWith (K : PySem.W.Frag) (CC : Addr) : Sp := fun vs H Q _ => ∃ (x a : Addr) (at' : Nat) (ys : List V) (r : Row) (fv : V), vs = [.ref x, .int (at' : Int), .str (SX.S r.1), fv] ∧ HeldAt CC H x a ∧ SqT K H a ys ∧ at' ≤ ys.length ∧ ys.length + 1 ≤ 40 ∧ Fr K H fv r.2 ∧ Rok r ∧ isRw r = true ∧
  ∀ (z p : Addr) (rv : V) (H' : Hp), HeldAt CC H' z p → SqT K H' p (ys.take at' ++ [rv] ++ ys.drop at') → RowAt K H' rv r → Same H H' → Q (.ref z) H'
abbrev nWith : List Str := ["self", "at", "name", "formula", "row"]
theorem scWith : FnScope nWith ["self", "at", "name", "formula"] (defScope s_Context_with_row) := ⟨rfl, rfl, rfl, by decide +kernel, rfl, by decide +kernel, by decide +kernel⟩
theorem ok_with {f : Addr} {fd fdC fdK : FuncData} (F : Fun K "with_row" "Context.with_row" s_Context_with_row f fd) (cP : C8.Cal P w K mg base 2 "is_place" spPlace []) (cR : C8.Cal P w K mg base 16 "is_row" (spRow K) []) (GC : FnOk P w K mg base CX0 18 fC fdC ["self", "rows"] (spCtxK K CK CC)) (bC : Binds K fdC ["self", "rows"] [])
    (GK : FnOk P w K mg base CX0 1 fK fdK ["self", "rows"] (spKn K CK)) (bK : Binds K fdK ["self", "rows"] []) (M : CtxM K mg CK CC fK fC mc) : FnOk P w K mg base CX0 20 f fd ["self", "at", "name", "formula"] (spWith K CC) := by
  refine F.ok scWith (fun vs H Q E h => ?_) (fun cdv A outer s H vs Q E hr h => ?_)
  · obtain ⟨x, a, at', ys, r, fv, rfl, _⟩ := h
    rfl
  obtain ⟨x, a, at', ys, r, fv, rfl, ⟨dx, ex⟩, ha, hat, h40, fr, ok, rw1, q⟩ := h
  have nd := scWith.nd
  refine ⟨_, pss_cons (ps_if (pt_not (pt_val (C8.pe_c cP hr (by decide) (by rfl) (pa_cons (pv 1) (pa_cons (pe_op op_add (pe_callB call_len_seq (by rfl) M.len boot_len (pa_cons (pe_fld (pv 0) rfl) pa_nil)) pe_int) pa_nil))))) (pss_one ps_never) pss_nil)
    (pss_cons (ps_set (i := 4) nd rfl (.inl rfl) (pe_tup (pa_cons (pv 2) (pa_cons (pv 3) pa_nil))))
    (pss_cons (ps_if (pt_not (pt_val (C8.pe_c cR hr (by decide) (by rfl) (pa_cons (pv 4) pa_nil)))) (pss_one ps_never) pss_nil)
    (pss_one (ps_ret (pe_make M.kC GC (hr.mono (by decide)) (by rfl) M.gC bC .nil pass0 (pa_cons (pe_make M.kK GK (hr.mono (by decide)) (by rfl) M.gK bK .nil pass0 (pa_cons
      (pe_op op_catA (pe_op op_catA (pe_slice sl_tupA (pe_fld (pv 0) rfl) po_none (po_some (pv 1))) (pe_tup (pa_cons (pv 4) pa_nil))) (pe_slice sl_tupA (pe_fld (pv 0) rfl) (po_some (pv 1)) po_none)) pa_nil)) pa_nil)))))), ?_⟩
  refine ⟨_, rfl, _, rfl, x, CC, dx, _, _, rfl, ex, M.cC, M.nC, lk1, a, ys, rfl, .inr ha, _, _, rfl, rfl, _, _, rfl, by omega, by omega, _, rfl, iteE rfl ?_⟩
  refine ⟨_, rfl, _, rfl, (by show 2 ≤ sizeLine; decide), fun t nt => ?_⟩
  have g1 := same_new nt (.tup [.str (SX.S r.1), fv])
  have hrow : RowAt K _ (.ref t) r := mk_row (SqT.of upd_same) (fr.same g1)
  refine ⟨_, rfl, _, r, rfl, hrow, ok, fun H2 s2 => ?_⟩
  rw [rw1]
  refine ⟨_, rfl, iteE rfl ?_⟩
  have s02 := g1.trans s2
  have ex2 := s02 _ _ ex
  have ha2 := sameT s02 ha
  refine ⟨_, rfl, x, CC, dx, _, _, rfl, ex2, M.cC, M.nC, lk1, ?_⟩
  refine ⟨_, rfl, (at' : Int), rfl, slA_of ha2 (cut_to hat) fun p3 H3 s3 hp3 => ?_⟩
  refine ⟨_, rfl, (by show 1 ≤ sizeLine; decide), fun t4 nt4 => ?_⟩
  have g4 := same_new nt4 (.tup [.ref t])
  refine catA_of (sameT g4 hp3) (SqT.of upd_same) (by rw [List.length_take]; show min at' ys.length + 1 ≤ sizeLine; exact small (by omega)) fun p5 H5 s5 hp5 => ?_
  have s25 := s3.trans (g4.trans s5)
  refine ⟨_, rfl, x, CC, dx, _, _, rfl, s25 _ _ ex2, M.cC, M.nC, lk1, ?_⟩
  refine ⟨_, rfl, (at' : Int), rfl, ?_⟩
  unfold tNoPart
  refine slA_of (sameT s25 ha2) (cut_from hat) fun p6 H6 s6 hp6 => ?_
  refine catA_of (sameT s6 hp5) hp6 (by rw [List.length_append, List.length_take, List.length_drop]; show min at' ys.length + 1 + (ys.length - at') ≤ sizeLine; exact small (by omega)) fun p H7 s7 hp => ?_
  intro k dk nk ndk nek
  have t1 := made0 (C := CK) nk ndk
  refine ⟨k, p, dk, _, rfl, upd_same, .inr (sameT t1 hp), fun a2 H8 hk ha8 kk => ⟨rfl, ?_⟩⟩
  have s8 := made1 nk ndk kk
  intro z dz nz ndz nez
  have t3 := made0 (C := CC) nz ndz
  refine ⟨z, k, a2, dz, _, rfl, upd_same, hk.same t3, sameT t3 ha8, ?_, fun H9 hz ha9 k9 => ⟨rfl, ?_⟩⟩
  · rw [List.length_append, List.length_append, List.length_take, List.length_drop]
    show min at' ys.length + 1 + (ys.length - at') ≤ 40
    omega
  · have sE := (s25.trans (s6.trans s7)).trans (s8.trans (made1 nz ndz k9))
    exact q z a2 (.ref t) H9 hz ha9 (hrow.same (s2.trans sE)) (s02.trans sE)
/-! ### without -/
def spWo (K : PySem.W.Frag) (CC : Addr) : Sp := fun vs H Q _ => ∃ (x tp a : Addr) (ys : List V) (ps : List Nat), vs = [.ref x, .ref tp] ∧ HeldAt CC H x a ∧ SqT K H a ys ∧ SqT K H tp (ps.map fun n : Nat => V.int (n : Int)) ∧ (∀ k ∈ ps, k < ys.length) ∧ ys.length ≤ 40 ∧
  ∀ (z p : Addr) (H' : Hp), HeldAt CC H' z p → SqT K H' p (keepV ys ps ys.length) → Same H H' → Q (.ref z) H'
abbrev nWo : List Str := ["self", "places", "place", "rows", "at", "row"]
theorem scWo : FnScope nWo ((["self"] : List Str) ++ (["places"] : List Str)) (defScope s_Context_without) := ⟨rfl, rfl, rfl, by decide +kernel, rfl, by decide +kernel, by decide +kernel⟩
def spWithout (K : PySem.W.Frag) (CC : Addr) : Sp := fun vs H Q E => ∃ ws rest, vs = ws ++ rest ∧ ws.length = 1 ∧ rest.length ≤ sizeLine ∧ ∀ p, H p = Option.none → spWo K CC (ws ++ [V.ref p]) (upd H p (.tup rest)) Q E
theorem ok_without {f : Addr} {fd fdC fdK : FuncData} (F : Fun K "without" "Context.without" s_Context_without f fd) (cP : C8.Cal P w K mg base 2 "is_place" spPlace []) (GC : FnOk P w K mg base CX0 18 fC fdC ["self", "rows"] (spCtxK K CK CC)) (bC : Binds K fdC ["self", "rows"] [])
    (GK : FnOk P w K mg base CX0 1 fK fdK ["self", "rows"] (spKn K CK)) (bK : Binds K fdK ["self", "rows"] []) (M : CtxM K mg CK CC fK fC mc) : FnR P w K mg base CX0 20 f (spWithout K CC) := by
  refine fun_star F scWo (pv := "places") (fun kV doc pm an cdv ct us rest hl => match us, rest, hl with | [a], [], _ => rfl | [a], r :: rs, _ => rfl) (fun cdv A outer s H vs Q E hr h => ?_)
  obtain ⟨x, tp, a, ys, ps, rfl, ⟨dx, ex⟩, ha, hp, hlt, h40, q⟩ := h
  have nd := scWo.nd
  refine ⟨_, pss_cons (ps_for PassesOwn.never rfl (pi_tup (pv 1)) (pg_name (i := 2) nd rfl (.inl rfl))
      (pss_one (ps_if (pt_not (pt_val (C8.pe_c cP hr (by decide) (by rfl) (pa_cons (pv 2) (pa_cons (pe_callB call_len_seq (by rfl) M.len boot_len (pa_cons (pe_fld (pv 0) rfl) pa_nil)) pa_nil))))) (pss_one ps_never) pss_nil)))
    (pss_cons (ps_setLc (i := 3) (own := [("at", 4), ("row", 5)]) (g := gTup K 2 (gCons (gName 4) (gCons (gName 5) gNil))) (tt := tTest (tOp (rIn K true) (tVar 4) (tVar 1))) (by rfl) nd rfl rfl (sw_true rfl rfl rfl (by decide +kernel)) (pi_enumA (by rfl) M.enum (pa_cons (pe_fld (pv 0) rfl) pa_nil))
        (blkOk_by (own := [("at", 4), ("row", 5)]) (N := nWo) (sc := defScope s_Context_without) (by decide +kernel)) (fun _ _ _ _ _ => pg_tup rfl (pgs_cons (pg_name (i := 4) nd rfl (Or.inl rfl)) (pgs_cons (pg_name (i := 5) nd rfl (Or.inl rfl)) pgs_nil))) (fun _ _ _ _ _ => pts_one (pt_cmpR op_notIn_seq (pv 4) (pv 1) (by with_unfolding_all rfl)))
        (fun _ _ _ _ _ => pv 5))
    (pss_one (ps_ret (pe_make M.kC GC (hr.mono (by decide)) (by rfl) M.gC bC .nil pass0 (pa_cons (pe_make M.kK GK (hr.mono (by decide)) (by rfl) M.gK bK .nil pass0 (pa_cons (pv 3) pa_nil)) pa_nil))))), ?_⟩
  refine ⟨_, rfl, tp, rfl, ⟨_, hp⟩, for_tup (K := K) (a := tp) (xs := ps.map fun n : Nat => V.int (n : Int)) (fun i σ H' => ∃ v2, σ = [some (.ref x), some (.ref tp), v2, none, none, none] ∧ H' = H) ⟨none, rfl, rfl⟩ (fun i σ H' _ ⟨_, _, e⟩ => by rw [e]; exact hp) ?_ ?_⟩
  · rintro i v σ H' hi ⟨v2, rfl, rfl⟩
    rw [List.getElem?_map] at hi
    obtain ⟨n, hn, rfl⟩ := Option.map_eq_some_iff.mp hi
    have hn2 := hlt n (List.mem_of_getElem? hn)
    exact ⟨_, rfl, _, rfl, x, CC, dx, _, _, rfl, ex, M.cC, M.nC, lk1, a, ys, rfl, .inr ha, _, _, rfl, by omega, by omega, _, rfl, iteE rfl ⟨_, rfl, rfl⟩⟩
  · rintro σ H' ⟨v2, rfl, rfl⟩
    refine ⟨_, rfl, x, CC, dx, _, _, rfl, ex, M.cC, M.nC, lk1, a, ys, rfl, .inr ⟨ha, fun R nR => ?_⟩⟩
    refine lc_it walk_enumT (fun i H1 => Same H' H1 ∧ H1 R = some (.lst (keepV ys ps i))) ⟨same_new nR _, upd_same⟩ (fun i H1 _ ⟨s1, _⟩ => sameT s1 ha) ?_ ?_
    · rintro i v H1 H2 hi ⟨s1, hR⟩ ⟨T, y, z, rfl, nT, rfl, ey, ez⟩
      cases ey
      have g := same_new nT (.tup [.int (i : Nat), z])
      refine ⟨T, _, rfl, SqT.of upd_same, rfl, _, _, rfl, _, _, rfl, rfl, rfl, ?_⟩
      refine ⟨_, rfl, _, rfl, tp, _, rfl, .inr (sameT (s1.trans g) hp), rfl, flat_ints ps, _, rfl, ?_⟩
      rw [inV_ints]
      by_cases hm : i ∈ ps
      · refine iteE (by rw [decide_eq_true hm]; rfl) ?_
        refine ⟨s1.trans g, ?_⟩
        rw [keepV_succ ez, if_pos hm, List.append_nil]
        exact g _ _ hR
      · refine iteU (by rw [decide_eq_false hm]; rfl) ?_
        have lk := keepV_len (ys := ys) (ps := ps) (i := i)
        refine ⟨_, rfl, _, g _ _ hR, small1000 (by omega), fun c o hc => ?_, ?_⟩
        · rw [upd_ne (ne_of_none hc nR)]
          exact (s1.trans g) _ _ hc
        · rw [upd_same, keepV_succ ez, if_neg hm]
    · rintro H1 ⟨s1, hR⟩
      refine ⟨_, rfl, ?_⟩
      intro k dk nk ndk nek
      have t1 := made0 (C := CK) nk ndk
      refine ⟨k, R, dk, _, rfl, upd_same, .inl (SqL.of (t1 _ _ hR)), fun a2 H8 hk ha8 kk => ⟨rfl, ?_⟩⟩
      have s8 := made1 nk ndk kk
      intro z dz nz ndz nez
      have t3 := made0 (C := CC) nz ndz
      refine ⟨z, k, a2, dz, _, rfl, upd_same, hk.same t3, sameT t3 ha8, Nat.le_trans keepV_len h40, fun H9 hz ha9 k9 => ⟨rfl, ?_⟩⟩
      exact q z a2 H9 hz ha9 (s1.trans (s8.trans (made1 nz ndz k9)))
end

end Ag

namespace Ag
open PySem PySem.Spec PyProof.Rows L2
section
variable {P : Program} {w : World} {K : PySem.W.Frag} {mg : Str → Option Value} {base : Heap}
/-! ### _law_rows -/
def okR (ns ws : List (List Nat)) (r : Row) : Prop := r.1 ∈ ns ∧ okF ws [] 3 r.2
def spLRows (K : PySem.W.Frag) : Sp := fun vs H Q _ => ∃ (b l na wa : Addr) (ns ws : List (List Nat)) (m : Nat), vs = [.ref b, .ref na, .ref wa, .int (m : Int)] ∧ Bag H b l ∧ SqL K H na (ns.map fun w => V.str (SX.S w)) ∧ na ≠ b ∧ 0 < ns.length ∧ ns.length ≤ 1000 ∧
  SqL K H wa (ws.map fun w => V.str (SX.S w)) ∧ wa ≠ b ∧ 0 < ws.length ∧ ws.length ≤ 1000 ∧ m ≤ 100 ∧
  ∀ (p : Addr) (vs : List V) (rs : List Row) (H' : Hp), rs.length = m → (∀ r ∈ rs, okR ns ws r) → H' p = some (.lst vs) → RowsAt K H' vs rs → H p = none → Kp b H H' → Bag H' b l → Q (.ref p) H'
abbrev nLRows : List Str := ["_law_bag_here", "_law_names_here", "_law_words", "_law_many", "_law_k"]
theorem scLRows : FnScope nLRows ["_law_bag_here", "_law_names_here", "_law_words", "_law_many"] (defScope s_law_rows) := ⟨rfl, rfl, rfl, by decide +kernel, rfl, by decide +kernel, by decide +kernel⟩
theorem ok_lrows {f : Addr} {fd : FuncData} (F : Fun K "_law_rows" "_law_rows" s_law_rows f fd) (cA : C8.Cal P w K mg base 2 "_law_any" (spAny K) []) (cF : C8.Cal P w K mg base 5 "_law_form" (spForm K 3) []) (M : NamesM mg) : FnOk P w K mg base CX0 6 f fd ["_law_bag_here", "_law_names_here", "_law_words", "_law_many"] (spLRows K) := by
  refine F.ok scLRows (fun vs H Q E h => ?_) (fun cdv A outer s H vs Q E hr h => ?_)
  · obtain ⟨b, l, na, wa, ns, ws, m, rfl, _⟩ := h
    rfl
  obtain ⟨b, l, na, wa, ns, ws, m, rfl, hB, hn, nnb, n0, n1, hw, nwb, w0, w1, hm, q⟩ := h
  have nd := scLRows.nd
  refine ⟨_, pss_one (ps_ret (pe_lc (own := [("_law_k", 4)]) (g := gName 4) (tt := tYes) rfl nd (pi_range1 (by rfl) M.range (pa_cons (pv 3) pa_nil))
      (blkOk_by (own := [("_law_k", 4)]) (N := nLRows) (sc := defScope s_law_rows) (by decide +kernel)) (fun _ _ _ _ _ => pg_name (i := 4) nd rfl (Or.inl rfl)) (fun _ _ _ _ _ => pts_nil)
      (fun _ _ _ _ _ => pe_tup (pa_cons (C8.pe_c cA hr (by decide) (by rfl) (pa_cons (pv 0) (pa_cons (pv 1) pa_nil))) (pa_cons (C8.pe_c cF hr (by decide) (by rfl) (pa_cons (pv 0) (pa_cons (pv 2) (pa_cons pe_int pa_nil)))) pa_nil))))), ?_⟩
  refine ⟨_, rfl, (m : Int), rfl, by omega, by omega, fun R nR => ?_⟩
  have nR' := hB.new nR
  refine lc_range (lo := 0) (n := (m : Int).toNat) (fun i H' => ∃ (vs : List V) (rs : List Row), rs.length = i ∧ (∀ r ∈ rs, okR ns ws r) ∧ H' R = some (.lst vs) ∧ RowsAt K H' vs rs ∧ Kp b H H' ∧ Bag H' b l) ⟨[], [], rfl, fun r h => (by cases h), upd_same, .nil, .of (same_new nR _), hB.kp (same_new nR _)⟩ ?_ ?_
  · rintro i H2 hi ⟨vs, rs, hl, hrs, hR, hv, k2, B2⟩
    refine ⟨rfl, _, rfl, _, rfl, b, l, _, _, rfl, B2, .inr ⟨na, rfl, nnb, .inl (k2.seqL nnb hn)⟩, by rw [List.length_map]; exact n0, by rw [List.length_map]; omega, fun j v H3 hj k3 B3 => ?_⟩
    rw [List.getElem?_map] at hj
    obtain ⟨u, hu, rfl⟩ := Option.map_eq_some_iff.mp hj
    have k23 := k2.trans k3
    refine ⟨_, rfl, _, rfl, b, l, wa, ws, 3, rfl, B3, k23.seqL nwb hw, nwb, w0, w1, by decide, by decide, fun fv t H4 ot ft k4 B4 => ?_⟩
    refine ⟨(by show 2 ≤ sizeLine; decide), fun p np => ?_⟩
    have g5 := same_new np (.tup [.str (SX.S u), fv])
    have k5 := (k23.trans k4).trans (.of g5)
    have B5 := B4.kp g5
    have hR3 := k3 _ _ hR nR'.1
    have hR5 := g5 _ _ (k4 _ _ hR3 nR'.1)
    have hv5 : RowsAt K _ vs rs := ((hv.kp k3 B2).kp k4 B3).same g5
    have tpR : Tp _ (upd _ R (.lst (vs ++ [.ref p]))) := Tp.upd hR5 trivial
    have lv : vs.length = rs.length := Paired.length hv
    refine ⟨_, hR5, small1000 (by omega), vs ++ [.ref p], rs ++ [(u, t)], by rw [List.length_append, hl]; rfl, fun r hr' => ?_, upd_same, paired_snoc (hv5.tp tpR) (mk_row (r := (u, t)) (tpR.seq (SqT.of upd_same)) ((ft.same g5).tp tpR)), k5.upd nR, B5.upd nR'.1 nR'.2⟩
    rcases List.mem_append.mp hr' with z | z
    · exact hrs r z
    · rw [List.mem_singleton.mp z]
      exact ⟨List.mem_of_getElem? hu, ot⟩
  · rintro H2 ⟨vs, rs, hl, hrs, hR, hv, k2, B2⟩
    exact q R vs rs H2 (by omega) hrs hR hv nR k2 B2
end

end Ag

namespace Ag
open PySem PySem.Spec PyProof.Rows L2
section
variable {P : Program} {w : World} {K : PySem.W.Frag} {mg : Str → Option Value} {base : Heap} {CK CC fK fC : Addr} {mc : Value}
theorem pe_methR0 {X : Cx} {CX : CXT} {k : Nat} {C f : Addr} {m : Str} {sp : Sp} {E : XK} {o : Expr} {ta : TE} {apos pos : Pos} {pl : Sem Bool} (he : PE X o ta) (c : Cls X.K C) (hm : Meth X.K C m f)
    (F : FnR X.prog X.w X.K X.mg X.base CX k f sp) (hr : Room k X.A) (hx : Passes CX X E)
    (ht : eval (.Call (.Attribute o m apos) [] [] pos) X.env = (do
      let ov ← eval o X.env
      standAt apos.atName
      let (f, first) ← holding [ov] (getMethod ov m pl)
      callWith pos f first (backTo pos (starEach [] X.env)) (backToKw pos (keywordEach [] X.env))) := by rfl) :
    PE X (.Call (.Attribute o m apos) [] [] pos) (tMethR C m sp E ta tNil) := by
  refine ⟨fun pins s σ H Q I h => ?_⟩
  refine PySem.W.methodCall_KW (pl := pl) (thn (he.run pins s σ H _ I h) fun u s1 ⟨x, H1, I1, rx, a, dx, fs, ex, ea, l, q⟩ => ?_) ht
  subst ex
  obtain rfl : u = Value.ref a := rx
  refine getmeth_ok I1 ea c hm l ?_
  exact PySem.W.callWith_K0 (first := [.ref a]) I1.kIn hm.kp (wpAny_call (run_fnR (us := [.ref a]) (vs := [.ref a]) F hr hx I1 (.cons rfl .nil) q))
abbrev nLaw : List Str := ["_law_script", "_law_bag_here", "_law_names_here", "_law_words", "_law_rows_here", "_law_others", "_law_made", "_law_other", "_law_at_z", "_law_name_z", "_law_formula_z", "_law_late", "_law_gone", "_law_k", "_law_less", "_law_left", "_law_both"]
theorem scLaw : FnScope nLaw ["_law_script"] (defScope s_law) := ⟨rfl, rfl, rfl, by decide +kernel, rfl, by decide +kernel, by decide +kernel⟩
def spLaw (K : PySem.W.Frag) : Sp := fun vs H Q _ => ∃ (a : Addr) (ns : List Int), vs = [.ref a] ∧ SqL K H a (ns.map V.int) ∧ ns.length ≤ 63 ∧ ∀ H', Q (.bl true) H'
structure Cals (P : Program) (w : World) (K : PySem.W.Frag) (mg : Str → Option Value) (base : Heap) : Prop where
  bag : C8.Cal P w K mg base 1 "_law_bag" (spBag K) []
  pull : C8.Cal P w K mg base 1 "_law_pull" spPull []
  any : C8.Cal P w K mg base 2 "_law_any" (spAny K) []
  names : C8.Cal P w K mg base 3 "_law_names" spNames []
  like : ∀ n, C8.Cal P w K mg base n "_law_like" (spLike K n) []
  form : ∀ n, C8.Cal P w K mg base (n + 2) "_law_form" (spForm K n) []
  rows : C8.Cal P w K mg base 6 "_law_rows" (spLRows K) []
structure Mths (P : Program) (w : World) (K : PySem.W.Frag) (mg : Str → Option Value) (base : Heap) (CC fC fR fW fO fA : Addr) (fdC fdR fdW fdA : FuncData) : Prop where
  gC : FnOk P w K mg base CX0 18 fC fdC ["self", "rows"] (spCtx K CC)
  bC : Binds K fdC ["self", "rows"] []
  gR : FnOk P w K mg base CX0 1 fR fdR ["self"] (spRws K CC)
  bR : Binds K fdR ["self"] []
  mR : Meth K CC "rows" fR
  gW : FnOk P w K mg base CX0 20 fW fdW ["self", "at", "name", "formula"] (spWith K CC)
  bW : Binds K fdW ["self", "at", "name", "formula"] []
  kW : KBn K fdW ["self", "at", "name", "formula"] 1 ["formula", "name", "at"] (fun us ws => us ++ ws.reverse) (fun us ws => us ++ ws.reverse)
  mW : Meth K CC "with_row" fW
  gO : FnR P w K mg base CX0 20 fO (spWithout K CC)
  mO : Meth K CC "without" fO
  gA : FnOk P w K mg base CX0 20 fA fdA ["self", "other"] (spAdd K CC)
  bA : Binds K fdA ["self", "other"] []
  hA : PySem.W.findIn K (.ref CC) "__add__" = some (some (.ref fA))
  iA : PySem.W.isFn K (.ref fA) = true
  sf : PySem.W.selfFirst K CC = true
theorem okR_ok {ns ws : List (List Nat)} {n m : Nat} (hN : Nms n ns) (hW : Nms m ws) {r : Row} (h : okR ns ws r) : Rok r ∧ isRw r = true := by
  obtain ⟨h1, h2⟩ := h
  obtain ⟨l1, l2, l3⟩ := hN.word _ h1
  have lw : ∀ w ∈ ws, Low w := fun w hw => (hW.word w hw).1
  have lh : ∀ c ∈ ([] : List (List Nat)), Low c := fun c h => (by cases h)
  have nmw : ∀ w ∈ ws, isNm w = true := fun w hw => by
    obtain ⟨a1, a2, a3⟩ := hW.word w hw
    rw [isNm_low a1 a2]
    exact decide_eq_true (by omega)
  have s1 := ok_shaped lw lh h2 (by decide)
  have ly := ok_lay lw lh h2
  refine ⟨⟨by omega, sml_ok (fun w hw => by have := (hW.word w hw).2.2; omega) (fun c h => (by cases h)) h2, s1, ?_⟩, ?_⟩
  · unfold SeqAt.shaped rowD
    rw [Bool.and_eq_true]
    refine ⟨?_, ?_⟩
    · show (PyData.canLay0 (.str (SX.S r.1)) && (PyData.canLay0 r.2.dat && true)) = true
      rw [ly.1]
      have : PyData.canLay0 (.str (SX.S r.1)) = true := low_lay l1
      rw [this]
      rfl
    · show decide (max 0 (max (PyData.depth r.2.dat) 0) + 1 ≤ 64) = true
      exact decide_eq_true (by have := ly.2; omega)
  · unfold isRw
    rw [isNm_low l1 l2, decide_eq_true (by omega), Bool.true_and]
    exact isB_le (isB_ok nmw (fun c h => (by cases h)) h2) (by decide)
end

end Ag

namespace Ag
open PySem PySem.Spec PyProof.Rows L2
/-! ### what stays of other lists at the same places -/
def keepG {α : Type} (ys : List α) (ps : List Nat) (i : Nat) : List α := ((List.range i).filter fun k => decide (k ∉ ps)).filterMap fun k => ys[k]?
theorem keepV_eq (ys : List V) (ps : List Nat) (i : Nat) : keepV ys ps i = keepG ys ps i := rfl
theorem keepG_succ {α : Type} {ys : List α} {ps : List Nat} {i : Nat} {v : α} (h : ys[i]? = some v) : keepG ys ps (i + 1) = keepG ys ps i ++ if i ∈ ps then [] else [v] := by
  unfold keepG
  rw [List.range_succ, List.filter_append, List.filterMap_append]
  by_cases hp : i ∈ ps
  · rw [if_pos hp]
    simp [hp]
  · rw [if_neg hp]
    simp [hp, h]
theorem pick_paired {α β : Type} {R : α → β → Prop} {xs : List α} {ys : List β} (h : Paired R xs ys) : ∀ l : List Nat, Paired R (l.filterMap fun k => xs[k]?) (l.filterMap fun k => ys[k]?)
  | [] => .nil
  | k :: l => by
    have ih := pick_paired h l
    have e : ∀ {xs : List α} {ys : List β} (k : Nat), Paired R xs ys → (xs[k]? = none ∧ ys[k]? = none) ∨ ∃ x y, xs[k]? = some x ∧ ys[k]? = some y ∧ R x y := by
      intro xs ys k h
      induction h generalizing k with
      | nil => exact .inl ⟨by simp, by simp⟩
      | @cons x y _ _ r t ih =>
        cases k with
        | zero => exact .inr ⟨x, y, by simp, by simp, r⟩
        | succ k => simpa using ih k
    rcases e k h with ⟨e1, e2⟩ | ⟨x, y, e1, e2, r⟩
    · rw [List.filterMap_cons_none e1, List.filterMap_cons_none e2]
      exact ih
    · rw [List.filterMap_cons_some e1, List.filterMap_cons_some e2]
      exact .cons r ih
theorem keep_paired {α β : Type} {R : α → β → Prop} {xs : List α} {ys : List β} (h : Paired R xs ys) (ps : List Nat) (i : Nat) : Paired R (keepG xs ps i) (keepG ys ps i) := pick_paired h _
theorem keepG_mem {α : Type} {ys : List α} {ps : List Nat} {i : Nat} {x : α} (h : x ∈ keepG ys ps i) : x ∈ ys := by
  unfold keepG at h
  obtain ⟨k, _, e⟩ := List.mem_filterMap.mp h
  exact List.mem_of_getElem? e
/-- a row put in and left out again -/
theorem keep_put (xs : List V) (v : V) {an : Nat} (ha : an ≤ xs.length) : keepV (xs.take an ++ [v] ++ xs.drop an) [an] (xs.length + 1) = xs := by
  have lo : ∀ i, i ≤ an → keepV (xs.take an ++ [v] ++ xs.drop an) [an] i = xs.take i := by
    intro i
    induction i with
    | zero =>
      intro _
      simp [keepV]
    | succ i ih =>
      intro hi
      have hx : i < xs.length := by omega
      have e : (xs.take an ++ [v] ++ xs.drop an)[i]? = some xs[i] := by
        rw [List.append_assoc, List.getElem?_append_left (by rw [List.length_take]; omega), List.getElem?_take_of_lt (by omega), List.getElem?_eq_getElem hx]
      rw [keepV_succ e, ih (by omega), if_neg (by simp; omega), List.take_add_one, List.getElem?_eq_getElem hx]
      rfl
  have e0 : (xs.take an ++ [v] ++ xs.drop an)[an]? = some v := by
    rw [List.append_assoc, List.getElem?_append_right (by rw [List.length_take]; omega), List.length_take, Nat.min_eq_left ha]
    simp
  have hi : ∀ d, an + d ≤ xs.length → keepV (xs.take an ++ [v] ++ xs.drop an) [an] (an + d + 1) = xs.take (an + d) := by
    intro d
    induction d with
    | zero =>
      intro _
      rw [Nat.add_zero, keepV_succ e0, lo an (Nat.le_refl _), if_pos (by simp), List.append_nil]
      rfl
    | succ d ih =>
      intro hd
      have hx : an + d < xs.length := by omega
      have e : (xs.take an ++ [v] ++ xs.drop an)[an + d + 1]? = some xs[an + d] := by
        rw [List.getElem?_append_right (by rw [List.length_append, List.length_take]; simp; omega), List.length_append, List.length_take, Nat.min_eq_left ha, List.getElem?_drop]
        have e2 : an + (an + d + 1 - (an + [v].length)) = an + d := by
          rw [List.length_singleton]
          omega
        rw [e2, List.getElem?_eq_getElem hx]
      show keepV _ [an] (an + d + 1 + 1) = xs.take (an + d + 1)
      rw [keepV_succ e, ih (by omega), if_neg (by simp; omega), List.take_add_one, List.getElem?_eq_getElem hx]
      rfl
  have := hi (xs.length - an) (by omega)
  rw [show an + (xs.length - an) = xs.length by omega] at this
  rw [this, List.take_length]
/-- the places that go -/
def ends (gs : List Nat) : List Nat := match gs with
  | [] => []
  | g :: t => [g, (g :: t).getLast (by simp)]
theorem dpall_nats {K : PySem.W.Frag} {H : Hp} : ∀ gs : List Nat, DpAll K H (gs.map fun n : Nat => V.int (n : Int)) (gs.map fun n : Nat => PyData.int (n : Int))
  | [] => .nil
  | g :: r => .cons (.int _) (dpall_nats r)
theorem depth_nats : ∀ gs : List Nat, PyData.depthAll (gs.map fun n : Nat => PyData.int (n : Int)) = 0
  | [] => rfl
  | g :: r => by
    show max 0 (PyData.depthAll (r.map fun n : Nat => PyData.int (n : Int))) = 0
    rw [depth_nats r]
    rfl
theorem lay_nats : ∀ gs : List Nat, PyData.canLayAll0 (gs.map fun n : Nat => PyData.int (n : Int)) = true
  | [] => rfl
  | g :: r => by
    show (PyData.canLay0 (.int (g : Int)) && PyData.canLayAll0 (r.map fun n : Nat => PyData.int (n : Int))) = true
    rw [lay_nats r]
    rfl
theorem shaped_nats (gs : List Nat) : SeqAt.shaped (.list (gs.map fun n : Nat => PyData.int (n : Int))) = true := by
  unfold SeqAt.shaped
  rw [Bool.and_eq_true]
  refine ⟨lay_nats gs, ?_⟩
  show decide (PyData.depthAll (gs.map fun n : Nat => PyData.int (n : Int)) + 1 ≤ 64) = true
  rw [depth_nats gs]
  decide
theorem eqv_none : ∀ xs : List PyData, PyData.eqv (.list xs) (.list []) = xs.isEmpty
  | [] => rfl
  | _ :: _ => rfl
theorem nat_last (g : Nat) (t : List Nat) : (g :: t)[t.length]? = some ((g :: t).getLast (by simp)) := by
  rw [List.getLast_eq_getElem, List.getElem?_eq_getElem (by simp)]
  simp
section
variable {P : Program} {w : World} {K : PySem.W.Frag} {mg : Str → Option Value} {base : Heap} {CK CC fK fC : Addr} {mc : Value}
theorem law_b {fR fW fO fA : Addr} {fdC fdR fdW fdA : FuncData} (c : Cals P w K mg base) (M : CtxM K mg CK CC fK fC mc) (W : Mths P w K mg base CC fC fR fW fO fA fdC fdR fdW fdA) (N : NamesM mg) {f : Addr} {cdv : Value} {A : Around} {outer : List Env} {s : Shared} {H0 : Hp} {E : XK}
    (hr : Room 23 (A.deeper (envOfC "law" (defScope s_law) s.heap.objs.size f cdv))) :
    ∃ u, PSs (cxOf CX0 P w K mg base nLaw "law" (defScope s_law) f cdv A outer s H0 E).nox ((defBody s_law).drop 8) u ∧
      ∀ (D : Ends) (H : Hp) (v0 v1 v2 v3 v8 v9 v10 v13 : Option V) (ra oa x1 x2 z G a1 a2 p : Addr) (rvs ovs vs1 vs2 : List V) (rrs ors : List Row) (an : Nat) (rv : V) (gs : List Nat) (nss ws : List (List Nat)) (n m : Nat), (∀ H', D.rt (.bl true) H') → Nms n nss → Nms m ws →
        H ra = some (.lst rvs) → RowsAt K H rvs rrs → H oa = some (.lst ovs) → RowsAt K H ovs ors → (∀ r ∈ rrs, okR nss ws r) → (∀ r ∈ ors, okR nss ws r) → rrs.length ≤ 6 → ors.length ≤ 3 →
        HeldAt CC H x1 a1 → SqT K H a1 vs1 → RowsAt K H vs1 rrs → HeldAt CC H x2 a2 → SqT K H a2 vs2 → RowsAt K H vs2 ors → HeldAt CC H z p → SqT K H p (vs1.take an ++ [rv] ++ vs1.drop an) → an ≤ rrs.length → v8 = some (.int (an : Int)) →
        H G = some (.lst (gs.map fun n : Nat => V.int (n : Int))) → (∀ k ∈ gs, k < rrs.length) → gs.length ≤ rrs.length →
        u D [v0, v1, v2, v3, some (.ref ra), some (.ref oa), some (.ref x1), some (.ref x2), v8, v9, v10, some (.ref z), some (.ref G), v13, none, none, none] H := by
  have nd := scLaw.nd
  refine ⟨_, (C8.pss_cut (ps_set (i := 14) nd rfl (.inl rfl) (pe_ifExp (pt_cmpR (op_neD hr.units) (pv 12) (pe_lst pa_nil) (nomark _))
        (pe_methR (pv 6) M.cC W.mO W.gO (hr.mono (by decide)) pass0 (pa_cons (pe_ix ix_list (pv 12) pe_int (fun _ _ => rfl)) (pa_cons (pe_ix ix_list (pv 12) (pe_op op_sub (pe_callB call_len_seq (by rfl) M.len boot_len (pa_cons (pv 12) pa_nil)) pe_int) (fun _ _ => rfl)) pa_nil)))
        (pe_methR0 (pv 6) M.cC W.mO W.gO (hr.mono (by decide)) pass0)))
    (pss_cons (ps_setLc (i := 15) (own := [("_law_k", 13)]) (g := gName 13) (te := tOp (rIxL K) (tVar 4) (tVar 13)) (tt := tOr (tTest (tOp (rEqD K) (tVar 12) (tLst tNil))) (tTest (tOp (rIn K true) (tVar 13) (tTup (tCons (tOp (rIxL K) (tVar 12) (tC (.int 0))) (tCons (tOp (rIxL K) (tVar 12) (tOp (rI0 fun i j => .int (i - j)) (tCB (fun xs H Q => ∃ p ys, xs = [.ref p] ∧ (SqL K H p ys ∨ SqT K H p ys) ∧ Q (.int ys.length) H) (tCons (tVar 12) tNil)) (tC (.int 1)))) tNil)))))) (by rfl) nd rfl rfl (sw_true rfl rfl rfl (by decide +kernel)) (pi_range1 (by rfl) N.range (pa_cons (pe_callB call_len_seq (by rfl) M.len boot_len (pa_cons (pv 4) pa_nil)) pa_nil))
        (blkOk_by (own := [("_law_k", 13)]) (N := nLaw) (sc := defScope s_law) (by decide +kernel)) (fun _ _ _ _ _ => pg_name (i := 13) nd rfl (Or.inl rfl))
        (fun _ _ _ _ _ => pts_one (PW.pt (pw_or (pt_cmpR (op_eqD hr.units) (pv 12) (pe_lst pa_nil) (nomark _)) (pw_or1 (pt_cmpR op_notIn_seq (pv 13) (pe_tup (pa_cons (pe_ix ix_list (pv 12) pe_int (fun _ _ => rfl)) (pa_cons (pe_ix ix_list (pv 12) (pe_op op_sub (pe_callB call_len_seq (by rfl) M.len boot_len (pa_cons (pv 12) pa_nil)) pe_int) (fun _ _ => rfl)) pa_nil))) (by with_unfolding_all rfl))))))
        (fun _ _ _ _ _ => pe_ix ix_list (pv 4) (pv 13) (fun _ _ => rfl)))
    (pss_cons (ps_if (pt_not (pt_val (C8.pe_c (c.like 12) hr (by decide) (by rfl) (pa_cons (pe_lst (pa_cons (pe_meth0 (pv 14) M.cC W.mR W.gR (hr.mono (by decide)) W.bR .nil pass0) (pa_cons (pe_meth0 (pe_methR (pv 11) M.cC W.mO W.gO (hr.mono (by decide)) pass0 (pa_cons (pv 8) pa_nil)) M.cC W.mR W.gR (hr.mono (by decide)) W.bR .nil pass0) pa_nil)))
        (pa_cons (pe_lst (pa_cons (pv 15) (pa_cons (pv 4) pa_nil))) pa_nil))))) (pss_one (ps_ret pe_bl)) pss_nil)
    (pss_cons (ps_set (i := 16) nd rfl (.inl rfl) (pe_op (op_own (op := .Add) W.sf W.hA W.iA W.gA (hr.mono (by decide)) W.bA pass0) (pv 6) (pv 7)))
    (pss_one (ps_ret (C8.pe_c (c.like 12) hr (by decide) (by rfl) (pa_cons (pe_lst (pa_cons (pe_meth0 (pv 16) M.cC W.mR W.gR (hr.mono (by decide)) W.bR .nil pass0) (pa_cons (pe_meth0 (pe_op (op_own (op := .Add) W.sf W.hA W.iA W.gA (hr.mono (by decide)) W.bA pass0) (pv 7) (pv 6)) M.cC W.mR W.gR (hr.mono (by decide)) W.bR .nil pass0)
        (pa_cons (pe_meth0 (pv 6) M.cC W.mR W.gR (hr.mono (by decide)) W.bR .nil pass0) (pa_cons (pe_meth0 (pv 7) M.cC W.mR W.gR (hr.mono (by decide)) W.bR .nil pass0) pa_nil)))))
        (pa_cons (pe_lst (pa_cons (pe_op op_cat (pv 4) (pv 5)) (pa_cons (pe_op op_cat (pv 5) (pv 4)) (pa_cons (pv 4) (pa_cons (pv 5) pa_nil))))) pa_nil))))))))), ?_⟩
  intro D H v0 v1 v2 v3 v8 v9 v10 v13 ra oa x1 x2 z G a1 a2 p rvs ovs vs1 vs2 rrs ors an rv gs nss ws n m q hN hW hra hrv hoa hov hrr hor lr lo he1 st1 rt1 he2 st2 rt2 hz hp han e8 hG hgs hgl
  subst e8
  have lrv : rvs.length = rrs.length := Paired.length hrv
  have lv1 : vs1.length = rrs.length := Paired.length rt1
  have lov : ovs.length = ors.length := Paired.length hov
  have lv2 : vs2.length = ors.length := Paired.length rt2
  refine ⟨fun σ' H' => ∃ y r, σ' = [v0, v1, v2, v3, some (.ref ra), some (.ref oa), some (.ref x1), some (.ref x2), some (.int (an : Int)), v9, v10, some (.ref z), some (.ref G), v13, some (.ref y), none, none] ∧ HeldAt CC H' y r ∧ SqT K H' r (keepV vs1 (ends gs) rrs.length) ∧ Same H H', ?_, ?_⟩
  · refine ⟨_, rfl, (by show 0 ≤ sizeLine; decide), fun t1 nt1 => ?_⟩
    have y1 := same_new nt1 (.lst [])
    refine ⟨_, _, .lst (SqL.of (y1 _ _ hG)) (dpall_nats gs), .lst (SqL.of upd_same) .nil, shaped_nats gs, (by decide +kernel), _, rfl, ?_⟩
    rw [eqv_none]
    obtain ⟨dx1, ex1⟩ := id he1
    cases gs with
    | nil =>
      refine iteE rfl ?_
      refine ⟨_, rfl, x1, dx1, _, rfl, y1 _ _ ex1, lk0 (by decide +kernel), ?_⟩
      refine ⟨[.ref x1], [], rfl, rfl, (by show 0 ≤ sizeLine; decide), fun t2 nt2 => ?_⟩
      have y2 := y1.trans (same_new nt2 (.tup []))
      exact ⟨x1, t2, a1, vs1, [], rfl, he1.same y2, sameT y2 st1, SqT.of upd_same, fun k hk => (by cases hk), by omega, fun y r H' hy hr' sy => ⟨y, r, rfl, hy, by rw [← lv1]; exact hr', y2.trans sy⟩⟩
    | cons g t =>
      refine iteU rfl ?_
      have hG1 := y1 _ _ hG
      refine ⟨_, rfl, x1, dx1, _, rfl, y1 _ _ ex1, lk0 (by decide +kernel), ?_⟩
      refine ⟨_, rfl, G, _, 0, .int (g : Int), rfl, rfl, SqL.of hG1, atI_nat (j := 0) rfl, ?_⟩
      refine ⟨_, rfl, _, rfl, G, _, rfl, .inl (SqL.of hG1), _, _, rfl, rfl, G, _, _, .int (((g :: t).getLast (by simp) : Nat) : Int), rfl, rfl, SqL.of hG1, ?_, ?_⟩
      · refine at_any (j := t.length) ?_ ?_
        · rw [List.length_map, List.length_cons]
          omega
        · rw [List.getElem?_map, nat_last g t]
          rfl
      refine ⟨[.ref x1], [.int (g : Int), .int (((g :: t).getLast (by simp) : Nat) : Int)], rfl, rfl, (by show 2 ≤ sizeLine; decide), fun t2 nt2 => ?_⟩
      have y2 := y1.trans (same_new nt2 (.tup [.int (g : Int), .int (((g :: t).getLast (by simp) : Nat) : Int)]))
      refine ⟨x1, t2, a1, vs1, [g, (g :: t).getLast (by simp)], rfl, he1.same y2, sameT y2 st1, SqT.of upd_same, fun k hk => ?_, by omega, fun y r H' hy hr' sy => ⟨y, r, rfl, hy, by rw [← lv1]; exact hr', y2.trans sy⟩⟩
      rw [lv1]
      rcases List.mem_cons.mp hk with rfl | hk
      · exact hgs _ (by simp)
      · rw [List.mem_singleton.mp hk]
        exact hgs _ (List.getLast_mem _)
  · rintro σ' H1 ⟨y, r, rfl, hy, hr1, s1⟩
    -- what is left
    have hra1 := s1 _ _ hra
    have hG1 := s1 _ _ hG
    refine ⟨_, rfl, ra, rvs, rfl, .inl (SqL.of hra1), _, rfl, by omega, by omega, fun L nL => ?_⟩
    refine lc_range (lo := 0) (n := (rvs.length : Int).toNat) (fun i H' => Same H1 H' ∧ H' L = some (.lst (keepV rvs (ends gs) i))) ⟨same_new nL _, upd_same⟩ ?_ ?_
    · rintro i H2 hi ⟨s2, hL⟩
      rw [Int.toNat_natCast] at hi
      rw [Int.zero_add]
      have hv := List.getElem?_eq_getElem hi
      have hG2 := s2 _ _ hG1
      refine ⟨rfl, ?_⟩
      refine ⟨_, rfl, (by show 0 ≤ sizeLine; decide), fun t1 nt1 => ?_⟩
      have g1 := same_new nt1 (.lst [])
      refine ⟨_, _, .lst (SqL.of (g1 _ _ hG2)) (dpall_nats gs), .lst (SqL.of upd_same) .nil, shaped_nats gs, (by decide +kernel), _, rfl, ?_⟩
      rw [eqv_none]
      have step : ∀ H3 : Hp, Same H2 H3 → i ∉ ends gs → tOp (rIxL K) (tVar 4) (tVar 13) [v0, v1, v2, v3, some (.ref ra), some (.ref oa), some (.ref x1), some (.ref x2), some (.int (an : Int)), v9, v10, some (.ref z), some (.ref G), some (.int (i : Int)), some (.ref y), none, none] H3 fun y H4 => ∃ acc, H4 L = some (.lst acc) ∧ acc.length < sizeLine ∧ Same H1 (upd H4 L (.lst (acc ++ [y]))) ∧ upd H4 L (.lst (acc ++ [y])) L = some (.lst (keepV rvs (ends gs) (i + 1))) := fun H3 s3 hno => by
        have lk := keepV_len (ys := rvs) (ps := ends gs) (i := i)
        refine ⟨_, rfl, _, rfl, ra, rvs, (i : Int), _, rfl, rfl, SqL.of (s3 _ _ (s2 _ _ hra1)), atI_nat hv, _, s3 _ _ hL, small1000 (by omega), fun c o hc => ?_, ?_⟩
        · rw [upd_ne (ne_of_none hc nL)]
          exact s3 _ _ (s2 _ _ hc)
        · rw [upd_same, keepV_succ hv, if_neg hno]
      cases gs with
      | nil => exact iteU rfl (iteU rfl (step _ g1 (by simp [ends])))
      | cons g t =>
        refine iteE rfl ?_
        have hG3 := g1 _ _ hG2
        refine ⟨_, rfl, _, rfl, G, _, 0, .int (g : Int), rfl, rfl, SqL.of hG3, atI_nat (j := 0) rfl, ?_⟩
        refine ⟨_, rfl, _, rfl, G, _, rfl, .inl (SqL.of hG3), _, _, rfl, rfl, G, _, _, .int (((g :: t).getLast (by simp) : Nat) : Int), rfl, rfl, SqL.of hG3, at_any (j := t.length) ?_ ?_, ?_⟩
        · rw [List.length_map, List.length_cons]
          omega
        · rw [List.getElem?_map, nat_last g t]
          rfl
        refine ⟨(by show 2 ≤ sizeLine; decide), fun t2 nt2 => ?_⟩
        have g2 := g1.trans (same_new nt2 (.tup [.int (g : Int), .int (((g :: t).getLast (by simp) : Nat) : Int)]))
        refine ⟨t2, (ends (g :: t)).map fun n : Nat => V.int (n : Int), rfl, .inr (SqT.of upd_same), rfl, flat_ints _, _, rfl, ?_⟩
        rw [inV_ints]
        by_cases hm : i ∈ ends (g :: t)
        · refine iteE (by rw [decide_eq_true hm]; rfl) ⟨s2.trans g2, ?_⟩
          rw [keepV_succ hv, if_pos hm, List.append_nil]
          exact g2 _ _ hL
        · exact iteU (by rw [decide_eq_false hm]; rfl) (step _ g2 hm)
    · rintro H2 ⟨s2, hL⟩
      rw [Int.toNat_natCast, lrv] at hL
      have s12 := s1.trans s2
      have hy2 := hy.same s2
      obtain ⟨dy, ey⟩ := id hy2
      have hz2 := hz.same s12
      obtain ⟨dz, ez⟩ := id hz2
      have kR := keep_paired (rt1.same s12) (ends gs) rrs.length
      have kL := keep_paired (hrv.same s12) (ends gs) rrs.length
      have okK : ∀ r ∈ keepG rrs (ends gs) rrs.length, okR nss ws r := fun r hr' => hrr r (keepG_mem hr')
      have lK : (keepG rrs (ends gs) rrs.length).length ≤ 1000 := by
        rw [← Paired.length kR]
        exact Nat.le_trans (keepV_len (ys := vs1) (ps := ends gs) (i := rrs.length)) (by omega)
      -- the second test
      refine ⟨_, rfl, y, dy, _, rfl, ey, lk0 (by decide +kernel), y, r, _, rfl, hy2, sameT s2 hr1, fun q1 nq1 => ?_⟩
      have y1 := same_new nq1 (.lst (keepV vs1 (ends gs) rrs.length))
      refine ⟨_, rfl, z, dz, _, rfl, y1 _ _ ez, lk0 (by decide +kernel), _, rfl, ?_⟩
      refine ⟨[.ref z], [.int (an : Int)], rfl, rfl, (by show 1 ≤ sizeLine; decide), fun t2 nt2 => ?_⟩
      have y2 := y1.trans (same_new nt2 (.tup [.int (an : Int)]))
      have lput : (vs1.take an ++ [rv] ++ vs1.drop an).length = vs1.length + 1 := by
        rw [List.length_append, List.length_append, List.length_take, List.length_drop]
        show min an vs1.length + 1 + (vs1.length - an) = _
        omega
      refine ⟨z, t2, p, _, [an], rfl, hz2.same y2, sameT (s12.trans y2) hp, SqT.of upd_same, fun k hk => ?_, by omega, fun z3 p3 H3 hz3 hp3 s3 => ?_⟩
      · rw [List.mem_singleton.mp hk]
        omega
      rw [lput, keep_put vs1 rv (by omega)] at hp3
      obtain ⟨dz3, ez3⟩ := id hz3
      have s23 := y2.trans s3
      refine ⟨z3, dz3, _, rfl, ez3, lk0 (by decide +kernel), z3, p3, _, rfl, hz3, hp3, fun q2 nq2 => ?_⟩
      have y3 := same_new nq2 (.lst vs1)
      refine ⟨(by show 2 ≤ sizeLine; decide), fun q3 nq3 => ?_⟩
      have y4 := same_new nq3 (.lst [.ref q1, .ref q2])
      refine ⟨_, rfl, _, rfl, (by show 2 ≤ sizeLine; decide), fun q4 nq4 => ?_⟩
      have y5 := same_new nq4 (.lst [.ref L, .ref ra])
      have s2E := s23.trans (y3.trans (y4.trans y5))
      have s1E := s12.trans s2E
      refine ⟨.ref q3, .ref q4, .list [.list ((keepG rrs (ends gs) rrs.length).map rowD), .list (rrs.map rowD)], rfl,
        .lst (SqL.of (y5 _ _ upd_same)) (.cons (rowsL_da (SqL.of (((same_new nt2 _).trans (s3.trans (y3.trans (y4.trans y5)))) _ _ upd_same)) (RowsAt.same s2E kR)) (.cons (rowsL_da (SqL.of ((y4.trans y5) _ _ upd_same)) (rt1.same s1E)) .nil)),
        .lst (SqL.of upd_same) (.cons (rowsL_da (SqL.of (s2E _ _ hL)) (RowsAt.same s2E kL)) (.cons (rowsL_da (SqL.of (s1E _ _ hra)) (hrv.same s1E)) .nil)), ?_, fun H6 s6 => ⟨_, rfl, iteE rfl ?_⟩⟩
      · have ok1 : oka 11 (.list ((keepG rrs (ends gs) rrs.length).map rowD)) = true := oka_rows (ns := nss) (ws := ws) 4 lK okK
        have ok2 : oka 11 (.list (rrs.map rowD)) = true := oka_rows (ns := nss) (ws := ws) 4 (by omega) hrr
        show (decide (2 ≤ 1000) && (oka 11 _ && (oka 11 _ && true))) = true
        rw [ok1, ok2]
        rfl
      -- both
      have s06 := s1E.trans s6
      obtain ⟨dx1, ex1⟩ := he1.same s06
      obtain ⟨dx2, ex2⟩ := he2.same s06
      refine ⟨_, rfl, _, rfl, x1, x2, dx1, dx2, _, _, rfl, rfl, ex1, ex2, x1, x2, a1, a2, vs1, vs2, rfl, ⟨dx1, ex1⟩, sameT s06 st1, ⟨dx2, ex2⟩, sameT s06 st2, by omega, fun zb pb H7 hzb hpb s7 => ?_⟩
      have s07 := s06.trans s7
      obtain ⟨db, eb⟩ := id hzb
      refine ⟨_, rfl, zb, db, _, rfl, eb, lk0 (by decide +kernel), zb, pb, _, rfl, hzb, hpb, fun r1 nr1 => ?_⟩
      have g1 := same_new nr1 (.lst (vs1 ++ vs2))
      refine ⟨_, rfl, _, rfl, x2, x1, dx2, dx1, _, _, rfl, rfl, (s7.trans g1) _ _ ex2, (s7.trans g1) _ _ ex1, x2, x1, a2, a1, vs2, vs1, rfl, ⟨dx2, (s7.trans g1) _ _ ex2⟩, sameT (s07.trans g1) st2, ⟨dx1, (s7.trans g1) _ _ ex1⟩, sameT (s07.trans g1) st1, by omega, fun zc pc H8 hzc hpc s8 => ?_⟩
      obtain ⟨dc, ec⟩ := id hzc
      refine ⟨zc, dc, _, rfl, ec, lk0 (by decide +kernel), zc, pc, _, rfl, hzc, hpc, fun r2 nr2 => ?_⟩
      have g2 := same_new nr2 (.lst (vs2 ++ vs1))
      have sA := s07.trans (g1.trans (s8.trans g2))
      have ex1A := (s7.trans (g1.trans (s8.trans g2))) _ _ ex1
      have ex2A := (s7.trans (g1.trans (s8.trans g2))) _ _ ex2
      refine ⟨_, rfl, x1, dx1, _, rfl, ex1A, lk0 (by decide +kernel), x1, a1, _, rfl, ⟨dx1, ex1A⟩, sameT sA st1, fun r3 nr3 => ?_⟩
      have g3 := same_new nr3 (.lst vs1)
      refine ⟨_, rfl, x2, dx2, _, rfl, g3 _ _ ex2A, lk0 (by decide +kernel), x2, a2, _, rfl, ⟨dx2, g3 _ _ ex2A⟩, sameT (sA.trans g3) st2, fun r4 nr4 => ?_⟩
      have g4 := same_new nr4 (.lst vs2)
      refine ⟨(by show 4 ≤ sizeLine; decide), fun r5 nr5 => ?_⟩
      have g5 := same_new nr5 (.lst [.ref r1, .ref r2, .ref r3, .ref r4])
      have g35 := g3.trans (g4.trans g5)
      have sB := sA.trans g35
      refine ⟨_, rfl, _, rfl, ra, oa, _, _, rfl, rfl, sB _ _ hra, sB _ _ hoa, small (by omega), fun r6 nr6 => ?_⟩
      have g6 := same_new nr6 (.lst (rvs ++ ovs))
      refine ⟨_, rfl, _, rfl, oa, ra, _, _, rfl, rfl, (sB.trans g6) _ _ hoa, (sB.trans g6) _ _ hra, small (by omega), fun r7 nr7 => ?_⟩
      have g7 := same_new nr7 (.lst (ovs ++ rvs))
      refine ⟨_, rfl, _, rfl, (by show 4 ≤ sizeLine; decide), fun r8 nr8 => ?_⟩
      have g8 := same_new nr8 (.lst [.ref r6, .ref r7, .ref ra, .ref oa])
      have g68 := g6.trans (g7.trans g8)
      have sC := sB.trans g68
      have p1 := rt1.same sC
      have p2 := rt2.same sC
      have p3' := hrv.same sC
      have p4 := hov.same sC
      refine ⟨.ref r5, .ref r8, .list [.list ((rrs ++ ors).map rowD), .list ((ors ++ rrs).map rowD), .list (rrs.map rowD), .list (ors.map rowD)], rfl,
        .lst (SqL.of (g68 _ _ upd_same)) (.cons (rowsL_da (SqL.of ((s8.trans (g2.trans (g35.trans g68))) _ _ upd_same)) (paired_app p1 p2)) (.cons (rowsL_da (SqL.of ((g35.trans g68) _ _ upd_same)) (paired_app p2 p1)) (.cons (rowsL_da (SqL.of ((g4.trans (g5.trans g68)) _ _ upd_same)) p1) (.cons (rowsL_da (SqL.of ((g5.trans g68) _ _ upd_same)) p2) .nil)))),
        .lst (SqL.of upd_same) (.cons (rowsL_da (SqL.of ((g7.trans g8) _ _ upd_same)) (paired_app p3' p4)) (.cons (rowsL_da (SqL.of (g8 _ _ upd_same)) (paired_app p4 p3')) (.cons (rowsL_da (SqL.of (sC _ _ hra)) p3') (.cons (rowsL_da (SqL.of (sC _ _ hoa)) p4) .nil)))), ?_, fun H9 s9 => q H9⟩
      have app : ∀ {xs ys : List Row}, (∀ r ∈ xs, okR nss ws r) → (∀ r ∈ ys, okR nss ws r) → ∀ r ∈ xs ++ ys, okR nss ws r := fun h1 h2 r hr' => (List.mem_append.mp hr').elim (h1 r) (h2 r)
      have o1 : oka 11 (.list ((rrs ++ ors).map rowD)) = true := oka_rows (ns := nss) (ws := ws) 4 (by rw [List.length_append]; omega) (app hrr hor)
      have o2 : oka 11 (.list ((ors ++ rrs).map rowD)) = true := oka_rows (ns := nss) (ws := ws) 4 (by rw [List.length_append]; omega) (app hor hrr)
      have o3 : oka 11 (.list (rrs.map rowD)) = true := oka_rows (ns := nss) (ws := ws) 4 (by omega) hrr
      have o4 : oka 11 (.list (ors.map rowD)) = true := oka_rows (ns := nss) (ws := ws) 4 (by omega) hor
      show (decide (4 ≤ 1000) && (oka 11 _ && (oka 11 _ && (oka 11 _ && (oka 11 _ && true))))) = true
      rw [o1, o2, o3, o4]
      rfl
end

end Ag

namespace Ag
open PySem PySem.Spec PyProof.Rows L2
section
variable {P : Program} {w : World} {K : PySem.W.Frag} {mg : Str → Option Value} {base : Heap} {CK CC fK fC : Addr} {mc : Value}
theorem ok_law {f fR fW fO fA : Addr} {fd fdC fdR fdW fdA : FuncData} (F : Fun K "law" "law" s_law f fd) (c : Cals P w K mg base) (M : CtxM K mg CK CC fK fC mc) (W : Mths P w K mg base CC fC fR fW fO fA fdC fdR fdW fdA) (N : NamesM mg) : FnOk P w K mg base CX0 24 f fd ["_law_script"] (spLaw K) := by
  refine F.ok scLaw (fun vs H Q E h => ?_) (fun cdv A outer s H vs Q E hr h => ?_)
  · obtain ⟨a, ns, rfl, _⟩ := h
    rfl
  obtain ⟨a, ns, rfl, hS, h63, q⟩ := h
  have nd := scLaw.nd
  obtain ⟨u, hu, hq⟩ := law_b c M W N (f := f) (cdv := cdv) (A := A) (outer := outer) (s := s) (H0 := H) (E := E) hr
  refine ⟨_, pss_cons (ps_set (i := 1) nd rfl (.inr rfl) (C8.pe_c c.bag hr (by decide) (by rfl) (pa_cons (pv 0) pa_nil)))
    (pss_cons (ps_par (i := 2) (j := 3) (by rfl) nd rfl rfl (by decide) rfl rfl (pa_cons (C8.pe_c c.names hr (by decide) (by rfl) (pa_cons (pv 1) (pa_cons pe_int pa_nil))) (pa_cons (C8.pe_c c.names hr (by decide) (by rfl) (pa_cons (pv 1) (pa_cons pe_int pa_nil))) pa_nil)) (by rfl))
    (pss_cons (ps_asg (pe_tup (pa_cons (C8.pe_c c.rows hr (by decide) (by rfl) (pa_cons (pv 1) (pa_cons (pv 2) (pa_cons (pv 3) (pa_cons (C8.pe_c c.pull hr (by decide) (by rfl) (pa_cons (pv 1) (pa_cons pe_int pa_nil))) pa_nil))))) (pa_cons (C8.pe_c c.rows hr (by decide) (by rfl) (pa_cons (pv 1) (pa_cons (pv 2) (pa_cons (pv 3) (pa_cons (C8.pe_c c.pull hr (by decide) (by rfl) (pa_cons (pv 1) (pa_cons pe_int pa_nil))) pa_nil))))) pa_nil)))
      (pg_tup rfl (pgs_cons (pg_name (i := 4) nd rfl (.inr rfl)) (pgs_cons (pg_name (i := 5) nd rfl (.inl rfl)) pgs_nil))))
    (pss_cons (ps_par (i := 6) (j := 7) (by rfl) nd rfl rfl (by decide) rfl rfl (pa_cons (pe_make M.kC W.gC (hr.mono (by decide)) (by rfl) M.gC W.bC .nil pass0 (pa_cons (pv 4) pa_nil)) (pa_cons (pe_make M.kC W.gC (hr.mono (by decide)) (by rfl) M.gC W.bC .nil pass0 (pa_cons (pv 5) pa_nil)) pa_nil)) (by rfl))
    (pss_cons (ps_par3 (i := 8) (j := 9) (l := 10) (by rfl) nd rfl rfl rfl (by decide) (by decide) (by decide) rfl rfl rfl (pa_cons (C8.pe_c c.pull hr (by decide) (by rfl) (pa_cons (pv 1) (pa_cons (pe_op op_add (pe_callB call_len_seq (by rfl) M.len boot_len (pa_cons (pv 4) pa_nil)) pe_int) pa_nil)))
      (pa_cons (C8.pe_c c.any hr (by decide) (by rfl) (pa_cons (pv 1) (pa_cons (pv 2) pa_nil))) (pa_cons (C8.pe_c (c.form 3) hr (by decide) (by rfl) (pa_cons (pv 1) (pa_cons (pv 3) (pa_cons pe_int pa_nil)))) pa_nil))) (by rfl))
    (pss_cons (ps_set (i := 11) nd rfl (.inl rfl) (pe_meth (pv 6) M.cC W.mW W.gW (hr.mono (by decide)) W.bW .nil pass0 (pa_cons (pv 8) (pa_cons (pv 9) (pa_cons (pv 10) pa_nil)))))
    (pss_cons (ps_if (pt_not (pt_val (C8.pe_c (c.like 12) hr (by decide) (by rfl) (pa_cons (pe_lst (pa_cons (pe_meth0 (pv 11) M.cC W.mR W.gR (hr.mono (by decide)) W.bR .nil pass0) (pa_cons (pe_meth0 (pe_methW (pv 6) M.cC W.mW W.gW (hr.mono (by decide)) W.kW pass0 (pk_cons (pv 10) (pk_cons (pv 9) (pk_cons (pv 8) pk_nil)))) M.cC W.mR W.gR (hr.mono (by decide)) W.bR .nil pass0) pa_nil)))
      (pa_cons (pe_op op_rep (pe_lst (pa_cons (pe_op op_cat (pe_op op_cat (pe_slice sl_list (pv 4) po_none (po_some (pv 8))) (pe_lst (pa_cons (pe_tup (pa_cons (pv 9) (pa_cons (pv 10) pa_nil))) pa_nil))) (pe_slice sl_list (pv 4) (po_some (pv 8)) po_none)) pa_nil)) pe_int) pa_nil))))) (pss_one (ps_ret pe_bl)) pss_nil)
    (pss_cons (ps_set (i := 12) nd rfl (.inr rfl) (pe_lc (own := [("_law_k", 13)]) (g := gName 13) (tt := tTest (tOp rEq (tCall spPull [] C8.E0 (tCons (tVar 1) (tCons (tC (.int 2)) tNil))) (tC (.int 0)))) rfl nd (pi_range1 (by rfl) N.range (pa_cons (pe_callB call_len_seq (by rfl) M.len boot_len (pa_cons (pv 4) pa_nil)) pa_nil))
        (blkOk_by (own := [("_law_k", 13)]) (N := nLaw) (sc := defScope s_law) (by decide +kernel)) (fun _ _ _ _ _ => pg_name (i := 13) nd rfl (Or.inl rfl)) (fun _ _ _ _ _ => pts_one (pt_cmpR op_eq (C8.pe_c c.pull hr (by decide) (by rfl) (pa_cons (pv 1) (pa_cons pe_int pa_nil))) pe_int (nomark _))) (fun _ _ _ _ _ => pv 13)))
    hu))))))), ?_⟩
  refine ⟨_, rfl, a, ns, rfl, hS, h63, fun b l H1 nb s1 B1 => ?_⟩
  refine ⟨_, rfl, b, l, 3, rfl, B1, by decide, fun na nss H2 hN nna k2 B2 hna => ?_⟩
  refine ⟨_, rfl, b, l, 2, rfl, B2, by decide, fun wa ws H3 hW nwa k3 B3 hwa => ?_⟩
  refine ⟨_, _, rfl, ?_⟩
  have nnb := B1.new nna
  have nwb := B2.new nwa
  have ln := hN.len
  have lws := hW.len
  have hna3 := k3 _ _ hna nnb.1
  -- the rows of both
  refine ⟨_, rfl, _, rfl, _, rfl, _, rfl, b, l, 7, rfl, B3, by decide, by decide, fun d1 H4 h10 h11 k4 B4 => ?_⟩
  obtain ⟨m1, rfl⟩ : ∃ m : Nat, d1 = (m : Int) := ⟨d1.toNat, by omega⟩
  refine ⟨b, l, na, wa, nss, ws, m1, rfl, B4, SqL.of (k4 _ _ hna3 nnb.1), nnb.1, by omega, by omega, SqL.of (k4 _ _ hwa nwb.1), nwb.1, by omega, by omega, by omega, fun ra rvs rrs H5 hrl hrr hra hrv nra k5 B5 => ?_⟩
  have k45 := k4.trans k5
  refine ⟨_, rfl, _, rfl, _, rfl, _, rfl, b, l, 4, rfl, B5, by decide, by decide, fun d2 H6 h20 h21 k6 B6 => ?_⟩
  obtain ⟨m2, rfl⟩ : ∃ m : Nat, d2 = (m : Int) := ⟨d2.toNat, by omega⟩
  have k46 := k45.trans k6
  refine ⟨b, l, na, wa, nss, ws, m2, rfl, B6, SqL.of (k46 _ _ hna3 nnb.1), nnb.1, by omega, by omega, SqL.of (k46 _ _ hwa nwb.1), nwb.1, by omega, by omega, by omega, fun oa ovs ors H7 hol hor hoa hov noa k7 B7 => ?_⟩
  have nrb := B4.new nra
  have nob := B6.new noa
  have k67 := k6.trans k7
  refine ⟨(by show 2 ≤ sizeLine; decide), fun t0 nt0 => ⟨t0, _, rfl, SqT.of upd_same, rfl, _, _, rfl, _, _, rfl, rfl, ?_⟩⟩
  have g0 := same_new nt0 (.tup [.ref ra, .ref oa])
  have B8 := B7.kp g0
  have hra8 := g0 _ _ (k67 _ _ hra nrb.1)
  have hoa8 := g0 _ _ hoa
  have hrv8 := (hrv.kp k67 B5).same g0
  have hov8 := hov.same g0
  have hna8 := g0 _ _ ((k46.trans k7) _ _ hna3 nnb.1)
  have hwa8 := g0 _ _ ((k46.trans k7) _ _ hwa nwb.1)
  have lrv : rvs.length = rrs.length := Paired.length hrv
  have lov : ovs.length = ors.length := Paired.length hov
  have okrr : ∀ r ∈ rrs, Rok r ∧ isRw r = true := fun r hr' => okR_ok hN hW (hrr r hr')
  have okor : ∀ r ∈ ors, Rok r ∧ isRw r = true := fun r hr' => okR_ok hN hW (hor r hr')
  generalize hH8 : upd H7 t0 (.tup [.ref ra, .ref oa]) = H8 at *
  -- the two contexts
  refine ⟨_, rfl, fun x1 dx1 nx1 ndx1 nd1 => ?_⟩
  have t1 := made0 (C := CC) nx1 ndx1
  refine ⟨x1, ra, dx1, rvs, rrs, rfl, upd_same, .inl (SqL.of (t1 _ _ hra8)), hrv8.same t1, okrr, by omega, ⟨"list", .base (.lst (t1 _ _ hra8)), .inl rfl⟩, fun H9 cx1 kx1 => ⟨rfl, ?_⟩⟩
  have s9 := made1 nx1 ndx1 kx1
  refine ⟨_, rfl, fun x2 dx2 nx2 ndx2 nd2 => ?_⟩
  have t2 := made0 (C := CC) nx2 ndx2
  refine ⟨x2, oa, dx2, ovs, ors, rfl, upd_same, .inl (SqL.of (t2 _ _ (s9 _ _ hoa8))), hov8.same (s9.trans t2), okor, by omega, ⟨"list", .base (.lst (t2 _ _ (s9 _ _ hoa8))), .inl rfl⟩, fun H10 cx2 kx2 => ⟨rfl, ?_⟩⟩
  have s10 := made1 nx2 ndx2 kx2
  have s810 := s9.trans s10
  refine ⟨_, _, rfl, ?_⟩
  have B10 := B8.kp s810
  have hra10 := s810 _ _ hra8
  have hoa10 := s810 _ _ hoa8
  have hrv10 := hrv8.same s810
  have hov10 := hov8.same s810
  have hna10 := s810 _ _ hna8
  have hwa10 := s810 _ _ hwa8
  obtain ⟨a1, vs1, he1, st1, rt1⟩ := cx1.same s10
  obtain ⟨a2, vs2, he2, st2, rt2⟩ := cx2
  have lv1 : vs1.length = rrs.length := Paired.length rt1
  have lv2 : vs2.length = ors.length := Paired.length rt2
  -- the place, the name, the formula
  refine ⟨_, rfl, _, rfl, ra, rvs, rfl, .inl (SqL.of hra10), _, _, rfl, rfl, b, l, _, rfl, B10, by omega, by omega, fun pt' H11 ha0 ha1 k11 B11 => ?_⟩
  obtain ⟨an, rfl⟩ : ∃ n : Nat, pt' = (n : Int) := ⟨pt'.toNat, by omega⟩
  refine ⟨_, rfl, _, rfl, b, l, _, _, rfl, B11, .inr ⟨na, rfl, nnb.1, .inl (SqL.of (k11 _ _ hna10 nnb.1))⟩, by rw [List.length_map]; omega, by rw [List.length_map]; omega, fun j v H12 hj k12 B12 => ?_⟩
  rw [List.getElem?_map] at hj
  obtain ⟨nm', hnm, rfl⟩ := Option.map_eq_some_iff.mp hj
  have k1012 := k11.trans k12
  refine ⟨_, rfl, _, rfl, b, l, wa, ws, 3, rfl, B12, SqL.of (k1012 _ _ hwa10 nwb.1), nwb.1, by omega, by omega, by decide, by decide, fun fv ft H13 oft ff k13 B13 => ?_⟩
  refine ⟨_, _, _, rfl, ?_⟩
  have kA := k1012.trans k13
  have hro : okR nss ws (nm', ft) := ⟨List.mem_of_getElem? hnm, oft⟩
  have okr := okR_ok hN hW hro
  have he1' := he1.kp kA B10
  have st1' := kp_tup kA B10 st1
  have rt1' := rt1.kp kA B10
  obtain ⟨dy1, ey1⟩ := id he1'
  refine ⟨_, rfl, x1, dy1, _, rfl, ey1, lk0 (by decide +kernel), _, rfl, _, rfl, _, rfl, ?_⟩
  refine ⟨x1, a1, an, vs1, (nm', ft), fv, rfl, he1', st1', by omega, by omega, ff, okr.1, okr.2, fun z p rv H14 hz hp hrw s14 => ?_⟩
  have hLd : ∀ r ∈ rrs.take an ++ [(nm', ft)] ++ rrs.drop an, okR nss ws r := fun r hr' => by
    rcases List.mem_append.mp hr' with z' | z'
    · rcases List.mem_append.mp z' with z' | z'
      · exact hrr r (List.mem_of_mem_take z')
      · rw [List.mem_singleton.mp z']
        exact hro
    · exact hrr r (List.mem_of_mem_drop z')
  have hLl : (rrs.take an ++ [(nm', ft)] ++ rrs.drop an).length ≤ 1000 := by
    rw [List.length_append, List.length_append, List.length_take, List.length_drop]
    show min an rrs.length + 1 + (rrs.length - an) ≤ 1000
    omega
  have rL : RowsAt K H14 (vs1.take an ++ [rv] ++ vs1.drop an) (rrs.take an ++ [(nm', ft)] ++ rrs.drop an) := paired_app (paired_app (paired_take an (rt1'.same s14)) (.cons hrw .nil)) (paired_drop an (rt1'.same s14))
  -- the first test
  obtain ⟨dz, ez⟩ := id hz
  refine ⟨_, rfl, z, dz, _, rfl, ez, lk0 (by decide +kernel), z, p, _, rfl, hz, hp, fun q1 nq1 => ?_⟩
  have y1 := same_new nq1 (.lst (vs1.take an ++ [rv] ++ vs1.drop an))
  have s15 := s14.trans y1
  refine ⟨_, rfl, x1, dy1, _, rfl, s15 _ _ ey1, lk0 (by decide +kernel), _, rfl, _, rfl, _, rfl, rfl, x1, a1, an, vs1, (nm', ft), fv, rfl, he1'.same s15, sameT s15 st1', by omega, by omega, ff.same s15, okr.1, okr.2, fun z2 p2 rv2 H16 hz2 hp2 hrw2 s16 => ?_⟩
  obtain ⟨dz2, ez2⟩ := id hz2
  refine ⟨z2, dz2, _, rfl, ez2, lk0 (by decide +kernel), z2, p2, _, rfl, hz2, hp2, fun q2 nq2 => ?_⟩
  have y2 := same_new nq2 (.lst (vs1.take an ++ [rv2] ++ vs1.drop an))
  refine ⟨(by show 2 ≤ sizeLine; decide), fun q3 nq3 => ?_⟩
  have y3 := same_new nq3 (.lst [.ref q1, .ref q2])
  have s17 := s15.trans (s16.trans (y2.trans y3))
  have hraA := kA _ _ hra10 nrb.1
  have hraB := s17 _ _ hraA
  refine ⟨_, rfl, _, rfl, (an : Int), rfl, ra, rvs, rfl, SqL.of hraB, fun p5 np5 => ?_⟩
  have y5 := same_new np5 (.lst (cutV rvs none (some (an : Int))))
  refine ⟨_, rfl, _, rfl, (by show 2 ≤ sizeLine; decide), fun t6 nt6 => ⟨(by show 1 ≤ sizeLine; decide), fun p7 np7 => ?_⟩⟩
  have y6 := same_new nt6 (.tup [.str (SX.S nm'), fv])
  have y7 := same_new np7 (.lst [.ref t6])
  have han : an ≤ rvs.length := by omega
  have lct : (cutV rvs none (some (an : Int))).length = an := by rw [cut_to han, List.length_take]; omega
  have lcf : (cutV rvs (some (an : Int)) none).length ≤ 6 := Nat.le_trans (cutV_length _ _ _) (by omega)
  refine ⟨p5, p7, _, _, rfl, rfl, (y6.trans y7) _ _ upd_same, upd_same, (by rw [lct]; show an + 1 ≤ sizeLine; exact small (by omega)), fun p8 np8 => ?_⟩
  have y8 := same_new np8 (.lst (cutV rvs none (some (an : Int)) ++ [.ref t6]))
  have s58 := y5.trans (y6.trans (y7.trans y8))
  refine ⟨_, rfl, _, rfl, (an : Int), rfl, ra, rvs, rfl, SqL.of (s58 _ _ hraB), fun p9 np9 => ?_⟩
  have y9 := same_new np9 (.lst (cutV rvs (some (an : Int)) none))
  refine ⟨p8, p9, _, _, rfl, rfl, y9 _ _ upd_same, upd_same, (by rw [List.length_append, lct]; show an + 1 + _ ≤ sizeLine; exact small (by omega)), fun p10 np10 => ?_⟩
  have y10 := same_new np10 (.lst (cutV rvs none (some (an : Int)) ++ [.ref t6] ++ cutV rvs (some (an : Int)) none))
  refine ⟨(by show 1 ≤ sizeLine; decide), fun p11 np11 => ?_⟩
  have y11 := same_new np11 (.lst [.ref p10])
  refine ⟨p11, 2, _, rfl, rfl, upd_same, by decide, by decide, (by show 1 * 2 ≤ sizeLine; decide), fun p12 np12 => ?_⟩
  have y12 := same_new np12 (.lst (List.replicate (2 : Int).toNat [V.ref p10]).flatten)
  have s18 := s58.trans (y9.trans (y10.trans (y11.trans y12)))
  have rL2 : RowsAt K H16 (vs1.take an ++ [rv2] ++ vs1.drop an) (rrs.take an ++ [(nm', ft)] ++ rrs.drop an) := paired_app (paired_app (paired_take an (rt1'.same (s15.trans s16))) (.cons hrw2 .nil)) (paired_drop an (rt1'.same (s15.trans s16)))
  have hrvA := hrv10.kp kA B10
  have s6z := y6.trans (y7.trans (y8.trans (y9.trans (y10.trans (y11.trans y12)))))
  have hrvZ := hrvA.same (s17.trans s18)
  have rR0 := paired_app (paired_app (paired_take an hrvZ) (Paired.cons (F := RowAt K _) (mk_row (r := (nm', ft)) (sameT (y7.trans (y8.trans (y9.trans (y10.trans (y11.trans y12))))) (SqT.of upd_same)) (ff.same (s17.trans s18))) .nil)) (paired_drop an hrvZ)
  rw [← cut_to han, ← cut_from han] at rR0
  have e2 : (List.replicate (2 : Int).toNat [V.ref p10]).flatten = [V.ref p10, V.ref p10] := rfl
  have dR := rowsL_da (p := p10) (SqL.of ((y11.trans y12) _ _ upd_same)) rR0
  have sq := y3.trans s18
  refine ⟨.ref q3, .ref p12, .list [.list ((rrs.take an ++ [(nm', ft)] ++ rrs.drop an).map rowD), .list ((rrs.take an ++ [(nm', ft)] ++ rrs.drop an).map rowD)], rfl,
    .lst (SqL.of (s18 _ _ upd_same)) (.cons (rowsL_da (SqL.of ((s16.trans (y2.trans sq)) _ _ upd_same)) (rL.same (y1.trans (s16.trans (y2.trans sq))))) (.cons (rowsL_da (SqL.of (sq _ _ upd_same)) (rL2.same (y2.trans sq))) .nil)),
    .lst (SqL.of (xs := [V.ref p10, V.ref p10]) upd_same) (.cons dR (.cons dR .nil)), ?_, fun H19 s19 => ⟨_, rfl, iteE rfl ?_⟩⟩
  · have ok1 : oka 11 (.list ((rrs.take an ++ [(nm', ft)] ++ rrs.drop an).map rowD)) = true := oka_rows (ns := nss) (ws := ws) 4 hLl hLd
    show (decide (2 ≤ 1000) && (oka 11 _ && (oka 11 _ && true))) = true
    rw [ok1]
    rfl
  -- the places that go
  have sZ := s17.trans (s18.trans s19)
  have B19 := B13.kp sZ
  have hra19 := sZ _ _ hraA
  refine ⟨_, rfl, ra, rvs, rfl, .inl (SqL.of hra19), _, rfl, by omega, by omega, fun G nG => ?_⟩
  have nGb := B19.new nG
  refine lc_range (lo := 0) (n := (rvs.length : Int).toNat) (fun i H' => ∃ ps : List Nat, (∀ k ∈ ps, k < i) ∧ ps.length ≤ i ∧ H' G = some (.lst (ps.map fun n : Nat => V.int (n : Int))) ∧ Kp b H19 H' ∧ Bag H' b l) ⟨[], fun k hk => (by cases hk), Nat.le_refl _, upd_same, .of (same_new nG _), B19.kp (same_new nG _)⟩ ?_ ?_
  · rintro i H20 hi ⟨ps, hps, hpl, hG, k20, B20⟩
    refine ⟨rfl, _, rfl, b, l, 2, rfl, B20, by decide, by decide, fun d H21 _ _ k21 B21 => ⟨rfl, _, rfl, ?_⟩⟩
    have hG21 := k21 _ _ hG nGb.1
    refine ite2 (fun _ => ?_) (fun _ => ?_)
    · refine ⟨_, rfl, _, hG21, (by rw [List.length_map]; exact small1000 (by omega)), ps ++ [i], fun k hk => ?_, by rw [List.length_append]; show ps.length + 1 ≤ _; omega, ?_, (k20.trans k21).upd nG, B21.upd nGb.1 nGb.2⟩
      · rcases List.mem_append.mp hk with z' | z'
        · have := hps k z'
          omega
        · rw [List.mem_singleton.mp z']
          omega
      · rw [upd_same, List.map_append]
        show some (HO.lst (_ ++ [V.int (0 + (i : Int))])) = some (HO.lst (_ ++ [V.int ((i : Nat) : Int)]))
        rw [Int.zero_add]
    · exact ⟨ps, fun k hk => by have := hps k hk; omega, by omega, hG21, k20.trans k21, B21⟩
  · rintro H22 ⟨gs, hgs, hgl, hG, k22, B22⟩
    rw [Int.toNat_natCast] at hgs hgl
    have hgs' : ∀ k ∈ gs, k < rrs.length := fun k hk => by
      have := hgs k hk
      omega
    have s14E := (y1.trans (s16.trans (y2.trans y3))).trans (s18.trans s19)
    exact hq _ _ _ _ _ _ _ _ _ _ ra oa x1 x2 z G a1 a2 p rvs ovs vs1 vs2 rrs ors an rv gs nss ws 3 2 (fun H' => q H') hN hW (k22 _ _ hra19 nrb.1) ((hrvA.same sZ).kp k22 B19) (k22 _ _ (sZ _ _ (kA _ _ hoa10 nob.1)) nob.1) (((hov10.kp kA B10).same sZ).kp k22 B19) hrr hor (by omega) (by omega)
      ((he1'.same sZ).kp k22 B19) (kp_tup k22 B19 (sameT sZ st1')) ((rt1'.same sZ).kp k22 B19) (((he2.kp kA B10).same sZ).kp k22 B19) (kp_tup k22 B19 (sameT sZ (kp_tup kA B10 st2))) (((rt2.kp kA B10).same sZ).kp k22 B19) ((hz.same s14E).kp k22 B19) (kp_tup k22 B19 (sameT s14E hp)) (by omega) rfl hG hgs' (by omega)
end

end Ag

namespace Ag
open PySem PySem.Spec PyProof.Rows L2
/-! ### what the top leaves of the classes -/
section
variable {P : Program} {w : World} {K : PySem.W.Frag} {mg : Str → Option Value} {base : Heap}
theorem conI_mk {h : Heap} {x : Str} {n : Int} {t : Tok} (X : K.In h) (G : h.Ns mainGlobals mg) (e : PySem.W.nsIn K mainGlobals x = some (some (.int n t))) : ∃ t, mg x = some (.int n t) := ⟨t, PySem.W.mg_of X G e⟩
theorem conS_mk {h : Heap} {x : Str} {n : Str} {t : Tok} (X : K.In h) (G : h.Ns mainGlobals mg) (e : PySem.W.nsIn K mainGlobals x = some (some (.str n t))) : ∃ t, mg x = some (.str n t) := ⟨t, PySem.W.mg_of X G e⟩
theorem kitc {t : Value} {C : Addr} {b : Bool} (ne : (t == Value.ref C) = false) (h1 : PySem.W.isClsIn K C = true) (h2 : PySem.W.typeIn K (.ref C) = some (.type "type")) (h3 : PySem.W.subIn K t (.ref C) = some b) : PySem.W.kitOne K t (.ref C) = some b := by
  unfold PySem.W.kitOne
  rw [ne, if_neg (by decide)]
  show (if ((PySem.W.clsIn K C).isSome && PySem.W.typeIn K (.ref C) == some (.type "type")) = true then PySem.W.subIn K t (.ref C) else none) = some b
  have e1 : (PySem.W.clsIn K C).isSome = true := h1
  rw [e1, h2, if_pos (by decide +kernel), h3]
theorem kits {C : Addr} : PySem.W.kitOne K (.ref C) (.ref C) = some true := if_pos (beq_self_eq_true _)
/-- a plain method, as the top leaves it -/
structure Mf (K : PySem.W.Frag) (C : Addr) (m q : Str) (st : Stmt) (ps : List Str) (f : Addr) (fd : FuncData) : Prop where
  fn : Fun K m q st f fd
  me : Meth K C m f
  bi : Binds K fd ps []
theorem mf_mk {C : Addr} {m q : Str} {st : Stmt} {ps : List Str} {f : Addr} {od an : Option Addr} {sl : Array (Option Value)} {oc kV dc pm cd ct : Value}
    (hb : ∀ (kV doc pm : Value) (an : Option Addr) (cdv ct : Value) (us : List Value), us.length = ps.length → bindArgs (PySem.W.fnOf m q (defArgs st) (defBody st) (defScope st) .none kV doc pm an cdv ct) ⟨us, []⟩ = pure (ps.zip us))
    (a : PySem.W.findIn K (.ref C) m = some (some (.ref f))) (i : PySem.W.isFn K (.ref f) = true) (l : K.lookup f = some ⟨oc, od, .func (PySem.W.fnOf m q (defArgs st) (defBody st) (defScope st) .none kV dc pm an cd ct), sl⟩) (c : PySem.W.codeIn K cd q = true) (k : PySem.W.keepIn K (.ref f) = true) :
    Mf K C m q st ps f (PySem.W.fnOf m q (defArgs st) (defBody st) (defScope st) .none kV dc pm an cd ct) :=
  have F := fun_mk (st := st) l c k
  ⟨F, ⟨a, i, k⟩, F.binds hb⟩
theorem mf_kw {C : Addr} {m q : Str} {st : Stmt} {ps ks : List Str} {f : Addr} {fd : FuncData} (D : Mf K C m q st ps f fd)
    (h : ∀ (kV doc pm : Value) (an : Option Addr) (cdv ct : Value) (us ws : List Value), us.length = 1 → ws.length = ks.length → bindArgs (PySem.W.fnOf m q (defArgs st) (defBody st) (defScope st) .none kV doc pm an cdv ct) ⟨us, ks.zip ws⟩ = pure (ps.zip (us ++ ws))) : KBn K fd ps 1 ks (· ++ ·) (· ++ ·) := by
  obtain ⟨oc, od, kV, doc, pm, an, cdv, ct, osl, rfl, lk, hcd⟩ := D.fn.ex
  exact ⟨fun s us ws _ l1 l2 => .of_eq (h kV doc pm an cdv ct us ws l1 l2), fun r1 r2 => r1.append r2⟩
/-- Context.__init__: its default is the empty tuple at T -/
structure Cf (K : PySem.W.Frag) (C f T : Addr) (fd : FuncData) : Prop where
  fn : FunD K "__init__" "Context.__init__" (defArgs s_Context_init) (defBody s_Context_init) (defScope s_Context_init) [.ref T] [] f fd
  t0 : ∀ H : Hp, SqT K H T [] ∧ TyX K H (.ref T) (.type "tuple")
theorem cf_mk {C f T D : Addr} {od an odD odT : Option Addr} {sl slD slT : Array (Option Value)} {oc kV dc pm cd ct ocD : Value} {nD nT : Nat}
    (l : K.lookup f = some ⟨oc, od, .func (PySem.W.fnOf "__init__" "Context.__init__" (defArgs s_Context_init) (defBody s_Context_init) (defScope s_Context_init) (.ref D) kV dc pm an cd ct), sl⟩)
    (lD : K.lookup D = some ⟨ocD, odD, .seq #[.ref T] nD, slD⟩) (lT : K.lookup T = some ⟨.type "tuple", odT, .seq #[] nT, slT⟩) (c : PySem.W.codeIn K cd "Context.__init__" = true) (k : PySem.W.keepIn K (.ref f) = true) :
    Cf K C f T (PySem.W.fnOf "__init__" "Context.__init__" (defArgs s_Context_init) (defBody s_Context_init) (defScope s_Context_init) (.ref D) kV dc pm an cd ct) := by
  refine ⟨⟨⟨oc, od, .ref D, kV, dc, pm, an, cd, ct, sl, rfl, l, c, .inr ⟨by simp, D, _, [.ref T], nD, rfl, lD, rfl, .cons rfl .nil⟩, .inl rfl⟩, k⟩, fun H => ⟨.inr ⟨_, #[], nT, lT, rfl, rfl, by decide, .nil⟩, .kTuple lT rfl⟩⟩
theorem cf_binds {C f T : Addr} {fd : FuncData} (D : Cf K C f T fd) : Binds K fd ["self", "rows"] [] ∧ Binds K fd ["self", "rows"] [.ref T] := by
  refine ⟨?_, ?_⟩
  · obtain ⟨ds, r, b⟩ := D.fn.binds1 (ps := ["self", "rows"]) 2 1 (by simp) rfl (fun T kV doc pm an cdv ct us its l1 l2 => match us, its, l1, l2 with | [_, _], [_], _, _ => ⟨_, rfl, rfl⟩)
    cases r
    exact b
  · obtain ⟨ds, r, b⟩ := D.fn.binds1 (ps := ["self", "rows"]) 1 0 (by simp) rfl (fun T kV doc pm an cdv ct us its l1 l2 => match us, its, l1, l2 with | [_], [_], _, _ => ⟨_, rfl, rfl⟩)
    cases r with
    | cons r1 r2 =>
      cases r1
      cases r2
      exact b
theorem joints_mk {h : Heap} {a : Addr} {od : Option Addr} {sl : Array (Option Value)} {n : Nat} {t1 t2 t3 : Tok} (X : K.In h) (G : h.Ns mainGlobals mg) (aJ : PySem.W.nsIn K mainGlobals "JOINTS" = some (some (.ref a)))
    (lJ : K.lookup a = some ⟨.type "tuple", od, .seq #[.str "then" t1, .str "and" t2, .str "or" t3] n, sl⟩) : ∃ a, mg "JOINTS" = some (.ref a) ∧ ∀ H, SqT K H a [.str "then", .str "and", .str "or"] :=
  ⟨a, PySem.W.mg_of X G aJ, fun H => .inr ⟨_, _, n, lJ, rfl, rfl, by show 3 ≤ sizeLine; decide, .cons ⟨_, rfl⟩ (.cons ⟨_, rfl⟩ (.cons ⟨_, rfl⟩ .nil))⟩⟩
theorem ctxm_mk {h : Heap} {CK CC fK fC : Addr} {t : Tok} (X : K.In h) (G : h.Ns mainGlobals mg)
    (a1 : PySem.W.nsIn K mainGlobals "KnownRows" = some (some (.ref CK))) (a2 : PySem.W.nsIn K mainGlobals "Context" = some (some (.ref CC)))
    (p1 : PySem.W.plainGet K CK Str.empty = true) (p2 : PySem.W.hasDictIn K CK = true) (p3 : PySem.W.plainOver K CK = true) (p4 : PySem.W.findIn K (.ref CK) "__setattr__" = some (some (.builtin "object.__setattr__"))) (p5 : PySem.W.findIn K (.ref CK) "held" = some none)
    (p6 : PySem.W.makesIn K CK = true) (p7 : PySem.W.findIn K (.ref CK) "__init__" = some (some (.ref fK))) (p8 : PySem.W.isFn K (.ref fK) = true) (p9 : PySem.W.keepIn K (.ref CK) = true)
    (r1 : PySem.W.plainGet K CC Str.empty = true) (r2 : PySem.W.hasDictIn K CC = true) (r3 : PySem.W.plainOver K CC = true) (r4 : PySem.W.findIn K (.ref CC) "__setattr__" = some (some (.builtin "object.__setattr__"))) (r5 : PySem.W.findIn K (.ref CC) "held" = some none)
    (r6 : PySem.W.makesIn K CC = true) (r7 : PySem.W.findIn K (.ref CC) "__init__" = some (some (.ref fC))) (r8 : PySem.W.isFn K (.ref fC) = true) (r9 : PySem.W.keepIn K (.ref CC) = true)
    (i1 : PySem.W.isClsIn K CK = true) (i2 : PySem.W.typeIn K (.ref CK) = some (.type "type")) (i3 : PySem.W.subIn K (.type "list") (.ref CK) = some false) (i4 : PySem.W.subIn K (.type "tuple") (.ref CK) = some false)
    (ha : PySem.W.findIn K (.ref CK) "__class__" = some (some (.builtin "object.__class__"))) (hn : PySem.W.specialIn K (.builtin "object.__class__") "__get__" = some (some (.builtin "getset_descriptor.__get__"))) (tk : PySem.W.takesIn K (.builtin "object.__class__") = some true) (mr : PySem.W.mroIn K CK (.type "object") = some true)
    (c1 : PySem.W.readsIn K CC (.type "type") = true) (c2 : PySem.W.specialIn K (.ref CC) "__getattribute__" = some (some (.builtin "type.__getattribute__"))) (c3 : PySem.W.findCls K (.ref CC) (.type "type") "MOST" = some (.val (.int 40 t)))
    (z1 : mg "isinstance" = none) (z2 : mg "len" = none) (z3 : mg "tuple" = none) (z4 : mg "enumerate" = none) : CtxM K mg CK CC fK fC (.type "type") :=
  ⟨⟨p1, p2, p3, p4⟩, ⟨r1, r2, r3, r4⟩, p5, r5, PySem.W.mg_of X G a1, PySem.W.mg_of X G a2, ⟨p6, p7, p8, p9⟩, ⟨r6, r7, r8, r9⟩, kitc rfl i1 i2 i3, kitc rfl i1 i2 i4, kits, ha, hn, tk, mr, ⟨c1, c2⟩, ⟨_, c3, ⟨_, rfl⟩⟩, z1, z2, z3, z4⟩
end

section
variable {P : Program} {w : World} {K : PySem.W.Frag} {mg : Str → Option Value} {base : Heap}
/-- a method with *.. behind self, as the top leaves it -/
structure Mg (K : PySem.W.Frag) (C : Addr) (m q : Str) (st : Stmt) (f : Addr) (fd : FuncData) : Prop where
  fn : Fun K m q st f fd
  me : Meth K C m f
theorem mg_mk {C : Addr} {m q : Str} {st : Stmt} {f : Addr} {od an : Option Addr} {sl : Array (Option Value)} {oc kV dc pm cd ct : Value}
    (a : PySem.W.findIn K (.ref C) m = some (some (.ref f))) (i : PySem.W.isFn K (.ref f) = true) (l : K.lookup f = some ⟨oc, od, .func (PySem.W.fnOf m q (defArgs st) (defBody st) (defScope st) .none kV dc pm an cd ct), sl⟩) (c : PySem.W.codeIn K cd q = true) (k : PySem.W.keepIn K (.ref f) = true) :
    Mg K C m q st f (PySem.W.fnOf m q (defArgs st) (defBody st) (defScope st) .none kV dc pm an cd ct) := ⟨fun_mk (st := st) l c k, ⟨a, i, k⟩⟩
theorem paired_rev {α β : Type} {R : α → β → Prop} : ∀ {xs : List α} {ys : List β}, Paired R xs ys → Paired R xs.reverse ys.reverse
  | _, _, .nil => .nil
  | _, _, .cons r t => by
    rw [List.reverse_cons, List.reverse_cons]
    exact paired_app (paired_rev t) (.cons r .nil)
theorem mf_kwR {C : Addr} {m q : Str} {st : Stmt} {ps ks : List Str} {f : Addr} {fd : FuncData} (D : Mf K C m q st ps f fd)
    (h : ∀ (kV doc pm : Value) (an : Option Addr) (cdv ct : Value) (us ws : List Value), us.length = 1 → ws.length = ks.length → bindArgs (PySem.W.fnOf m q (defArgs st) (defBody st) (defScope st) .none kV doc pm an cdv ct) ⟨us, ks.zip ws⟩ = pure (ps.zip (us ++ ws.reverse))) : KBn K fd ps 1 ks (fun us ws => us ++ ws.reverse) (fun us ws => us ++ ws.reverse) := by
  obtain ⟨oc, od, kV, doc, pm, an, cdv, ct, osl, rfl, lk, hcd⟩ := D.fn.ex
  exact ⟨fun s us ws _ l1 l2 => .of_eq (h kV doc pm an cdv ct us ws l1 l2), fun r1 r2 => r1.append (paired_rev r2)⟩
end

end Ag

namespace Ag
open PySem PySem.Spec PyProof.Rows L2
section
variable {P : Program} {w : World} {K : PySem.W.Frag} {mg : Str → Option Value} {base : Heap}
theorem law_main {f : Addr} {fd : FuncData} (FL : Fun K "law" "law" s_law f fd) {f_law_bag : Addr} {fd_law_bag : FuncData} (D_law_bag : Df K mg "_law_bag" s_law_bag ["_law_script"] f_law_bag fd_law_bag) {f_law_pull : Addr} {fd_law_pull : FuncData} (D_law_pull : Df K mg "_law_pull" s_law_pull ["_law_bag_here", "_law_many"] f_law_pull fd_law_pull) {f_law_any : Addr} {fd_law_any : FuncData} (D_law_any : Df K mg "_law_any" s_law_any ["_law_bag_here", "_law_things"] f_law_any fd_law_any) {f_law_like : Addr} {fd_law_like : FuncData} (D_law_like : Df K mg "_law_like" s_law_like ["_law_found", "_law_due"] f_law_like fd_law_like) {f_law_names : Addr} {fd_law_names : FuncData} (D_law_names : Df K mg "_law_names" s_law_names ["_law_bag_here", "_law_many"] f_law_names fd_law_names) {f_law_form : Addr} {fd_law_form : FuncData} (D_law_form : Df K mg "_law_form" s_law_form ["_law_bag_here", "_law_words", "_law_deep"] f_law_form fd_law_form) {f_law_rows : Addr} {fd_law_rows : FuncData} (D_law_rows : Df K mg "_law_rows" s_law_rows ["_law_bag_here", "_law_names_here", "_law_words", "_law_many"] f_law_rows fd_law_rows) {f_is_letter : Addr} {fd_is_letter : FuncData} (D_is_letter : Df K mg "is_letter" s_is_letter ["value"] f_is_letter fd_is_letter) {f_is_name : Addr} {fd_is_name : FuncData} (D_is_name : Df K mg "is_name" s_is_name ["value"] f_is_name fd_is_name) {f_is_leaf : Addr} {fd_is_leaf : FuncData} (D_is_leaf : Df K mg "is_leaf" s_is_leaf ["value", "holes"] f_is_leaf fd_is_leaf) {f_is_built : Addr} {fd_is_built : FuncData} (D_is_built : Df K mg "is_built" s_is_built ["value", "depth", "holes"] f_is_built fd_is_built) {f_is_formula : Addr} {fd_is_formula : FuncData} (D_is_formula : Df K mg "is_formula" s_is_formula ["value"] f_is_formula fd_is_formula) {f_is_row : Addr} {fd_is_row : FuncData} (D_is_row : Df K mg "is_row" s_is_row ["value"] f_is_row fd_is_row) {f_tested_rows : Addr} {fd_tested_rows : FuncData} (D_tested_rows : Df K mg "tested_rows" s_tested_rows ["rows"] f_tested_rows fd_tested_rows) {f_is_number : Addr} {fd_is_number : FuncData} (D_is_number : Df K mg "is_number" s_is_number ["value"] f_is_number fd_is_number) {f_is_place : Addr} {fd_is_place : FuncData} (D_is_place : Df K mg "is_place" s_is_place ["value", "many"] f_is_place fd_is_place) (z_len : mg "len" = none) (z_int : mg "int" = none) (z_list : mg "list" = none) (z_isinstance : mg "isinstance" = none) (z_dict : mg "dict" = none) (z_tuple : mg "tuple" = none) (z_bool : mg "bool" = none) (z_str : mg "str" = none) (z_all : mg "all" = none) (z_zip : mg "zip" = none) (z_sorted : mg "sorted" = none) (z_range : mg "range" = none) (z_enumerate : mg "enumerate" = none) (v_LETTERS : ∃ t, mg "LETTERS" = some (.str "abcdefghijklmnopqrstuvwxyz" t)) (v_LONGEST_NAME : ∃ t, mg "LONGEST_NAME" = some (.int 6 t)) (v_FORMULA_DEPTH : ∃ t, mg "FORMULA_DEPTH" = some (.int 10 t)) (JT : ∃ a, mg "JOINTS" = some (.ref a) ∧ ∀ H, SqT K H a [.str "then", .str "and", .str "or"]) {CK CC fK fC fR fW fO fA T0 : Addr} {fdK fdC fdR fdW fdO fdA : FuncData} (M : CtxM K mg CK CC fK fC (.type "type")) (DK : Mf K CK "__init__" "KnownRows.__init__" s_KnownRows_init ["self", "rows"] fK fdK) (DC : Cf K CC fC T0 fdC)
    (DR : Mf K CC "rows" "Context.rows" s_Context_rows ["self"] fR fdR) (DW : Mf K CC "with_row" "Context.with_row" s_Context_with_row ["self", "at", "name", "formula"] fW fdW) (DO : Mg K CC "without" "Context.without" s_Context_without fO fdO) (DA : Mf K CC "__add__" "Context.__add__" s_Context_add ["self", "other"] fA fdA) (I1 : PySem.W.findIn K (.ref CC) "__class__" = some (some (.builtin "object.__class__"))) (I2 : PySem.W.mroIn K CC (.type "object") = some true) (sf : PySem.W.selfFirst K CC = true) : FnOk P w K mg base CX0 24 f fd ["_law_script"] (spLaw K) := by
  have LM : LikeM mg := ⟨z_isinstance, z_dict, z_list, z_tuple, z_bool, z_int, z_str, z_len, z_all, z_zip, z_sorted⟩
  have NM : NamesM mg := ⟨z_range, z_int, z_len⟩
  have NA : NameM mg := ⟨z_isinstance, z_str, z_len, z_all, v_LETTERS, v_LONGEST_NAME⟩
  have cP : C8.Cal P w K mg base 1 "_law_pull" spPull [] := D_law_pull.cal (ok_pull D_law_pull.fn z_len z_int)
  have cA : C8.Cal P w K mg base 2 "_law_any" (spAny K) [] := D_law_any.cal (ok_any D_law_any.fn cP z_len)
  have cF := form_cal D_law_form.fn D_law_form.bi D_law_form.mg cP cA
  have cLe : C8.Cal P w K mg base 1 "is_letter" (spLetter K) [] := D_is_letter.cal (ok_letter D_is_letter.fn NA)
  have cNa : C8.Cal P w K mg base 2 "is_name" (spName K) [] := D_is_name.cal (ok_name D_is_name.fn cLe NA)
  have cLf : C8.Cal P w K mg base 3 "is_leaf" (spLeaf K) [] := D_is_leaf.cal (ok_leaf D_is_leaf.fn cNa cLe)
  have BM : BuiltM K mg := ⟨z_isinstance, z_tuple, z_len, z_all, JT⟩
  have cBu := built_cal D_is_built cLf BM
  have cFo : C8.Cal P w K mg base 15 "is_formula" (spFormula K) [] := D_is_formula.cal (ok_formula D_is_formula.fn (cBu 11) v_FORMULA_DEPTH)
  have cRo : C8.Cal P w K mg base 16 "is_row" (spRow K) [] := D_is_row.cal (ok_row D_is_row.fn cNa cFo z_isinstance z_tuple z_len)
  have GK := ok_kn (P := P) (w := w) (base := base) DK.fn M
  have cTe : C8.Cal P w K mg base 17 "tested_rows" (spTested K CK) [] := D_tested_rows.cal (ok_tested D_tested_rows.fn cRo GK DK.bi M)
  have cNu : C8.Cal P w K mg base 1 "is_number" spNumber [] := D_is_number.cal (ok_number D_is_number.fn z_isinstance z_int z_bool)
  have cPl : C8.Cal P w K mg base 2 "is_place" spPlace [] := D_is_place.cal (ok_place D_is_place.fn cNu)
  have GC := ok_ctx (P := P) (w := w) (base := base) DC.fn cTe M
  have GX := ok_ctxK (P := P) (w := w) (base := base) DC.fn cTe M
  have hc := cf_binds DC
  exact ok_law FL ⟨D_law_bag.cal (ok_bag D_law_bag.fn z_list), cP, cA, D_law_names.cal (ok_names D_law_names.fn cP cA NM), like_cal D_law_like.fn D_law_like.bi D_law_like.mg LM, cF, D_law_rows.cal (ok_lrows D_law_rows.fn cA (cF 3) NM)⟩ M
    ⟨GC, hc.1, ok_rws DR.fn M z_list, DR.bi, DR.me, ok_with DW.fn cPl cRo GX hc.1 GK DK.bi M, DW.bi, mf_kwR DW (fun _ _ _ _ _ _ us ws l1 l2 => match us, ws, l1, l2 with | [_], [_, _, _], _, _ => rfl), DW.me,
     ok_without DO.fn cPl GX hc.1 GK DK.bi M, DO.me, ok_add DA.fn GX hc.1 GK DK.bi M ⟨I1, I2⟩, DA.bi, DA.me.at_, DA.me.fn, sf⟩ NM
end
end Ag

namespace Ag
open PySem L2
theorem walk {l : PySem.W.OpenLaw} {q : Program} {loose : List Str} {XP : (Str → Option Value) → Heap → Prop} {YP : World → Heap → Prop} {d : DefRec} {K : Params → PySem.W.Frag} (hn : l.most = some 63) (hdf : d.params.defaults = [])
    (hY : ∀ (w : World) (h : Heap), YP w h → (K w.params).In h)
    (F : ∀ (w : World) (mg : Str → Option Value) (fa : Addr) (h : Heap), (K w.params).In h → h.Ns mainGlobals mg → mg d.name = some (.ref fa) →
      ∃ fd : FuncData, (∀ (s : Shared) (u : Value), BindsTo s fd ⟨[u], []⟩ [("_law_script", u)]) ∧ ∀ base : Heap, (K w.params).In base → base.Ns mainGlobals mg → FnOk l.prog w (K w.params) mg base CX0 24 fa fd ["_law_script"] (spLaw (K w.params))) :
    PySem.W.WalkO q loose XP YP l.row.toRowW d [] (fun f vs => PySem.call f vs) :=
  L2.walk_of (n := 63) (k := 24) (x := "_law_script") (CX := fun _ => CX0) (sp := fun w => spLaw (K w.params)) hn (by decide) hdf ⟨rfl, by decide, by decide⟩ hY F (fun _ _ a ns hl _ hS => ⟨a, ns, rfl, hS, hl, fun _ => rfl⟩) fun _ _ _ _ _ z => z
theorem law_all {l : PySem.W.OpenLaw} {w : World} {K : PySem.W.Frag} {h : Heap} {mg : Str → Option Value} {fa f : Addr} (X : K.In h) (G : h.Ns mainGlobals mg) (hfa : mg "law" = some (.ref fa)) {od an : Option Addr} {sl : Array (Option Value)} {oc kV dc pm cd ct : Value}
    (a : PySem.W.nsIn K mainGlobals "law" = some (some (.ref f))) (lk : K.lookup f = some ⟨oc, od, .func (PySem.W.fnOf "law" "law" (defArgs s_law) (defBody s_law) (defScope s_law) .none kV dc pm an cd ct), sl⟩) (c : PySem.W.codeIn K cd "law" = true) (k : PySem.W.keepIn K (.ref f) = true)
    (H : ∀ base : Heap, K.In base → base.Ns mainGlobals mg → Fun K "law" "law" s_law f (PySem.W.fnOf "law" "law" (defArgs s_law) (defBody s_law) (defScope s_law) .none kV dc pm an cd ct) → FnOk l.prog w K mg base CX0 24 f (PySem.W.fnOf "law" "law" (defArgs s_law) (defBody s_law) (defScope s_law) .none kV dc pm an cd ct) ["_law_script"] (spLaw K)) :
    ∃ fd : FuncData, (∀ (s : Shared) (v : Value), BindsTo s fd ⟨[v], []⟩ [("_law_script", v)]) ∧ ∀ base : Heap, K.In base → base.Ns mainGlobals mg → FnOk l.prog w K mg base CX0 24 fa fd ["_law_script"] (spLaw K) := by
  have e := hfa.symm.trans (PySem.W.mg_of X G a)
  cases e
  exact ⟨_, fun s v => .of_eq rfl, fun base b1 b2 => H base b1 b2 (fun_mk (st := s_law) lk c k)⟩
end Ag
open PySem PySem.W PyProof.Rows L2
set_option maxRecDepth 100000 in
set_option maxHeartbeats 0 in
theorem PySem.Challenge.cw_addedgrounds_k13_contexts_changed_holds : PySem.Challenge.rw_addedgrounds_k13_contexts_changed.Holds := by
  w_on; o_law; k_head; (case hw => w_witness2)
  k_fill
  refine Ag.walk (l := PySem.Challenge.rw_addedgrounds_k13_contexts_changed) rfl rfl (fun w h Y => PySem.W.kIn_of Y) ?F
  case F =>
    intro w mg fa h KX G hmg
    have D_law_bag := by
      refine' Ag.df_mk (x := "_law_bag") (st := Ag.s_law_bag) (ps := ["_law_script"]) KX G (fun _ _ _ _ _ _ us hl => match us, hl with | [_], _ => rfl) ?a ?l ?c ?k
      (case a => k_is); (case l => k_is); (case c => k_is); (case k => k_is)
    have D_law_pull := by
      refine' Ag.df_mk (x := "_law_pull") (st := Ag.s_law_pull) (ps := ["_law_bag_here", "_law_many"]) KX G (fun _ _ _ _ _ _ us hl => match us, hl with | [_, _], _ => rfl) ?a ?l ?c ?k
      (case a => k_is); (case l => k_is); (case c => k_is); (case k => k_is)
    have D_law_any := by
      refine' Ag.df_mk (x := "_law_any") (st := Ag.s_law_any) (ps := ["_law_bag_here", "_law_things"]) KX G (fun _ _ _ _ _ _ us hl => match us, hl with | [_, _], _ => rfl) ?a ?l ?c ?k
      (case a => k_is); (case l => k_is); (case c => k_is); (case k => k_is)
    have D_law_like := by
      refine' Ag.df_mk (x := "_law_like") (st := Ag.s_law_like) (ps := ["_law_found", "_law_due"]) KX G (fun _ _ _ _ _ _ us hl => match us, hl with | [_, _], _ => rfl) ?a ?l ?c ?k
      (case a => k_is); (case l => k_is); (case c => k_is); (case k => k_is)
    have D_law_names := by
      refine' Ag.df_mk (x := "_law_names") (st := Ag.s_law_names) (ps := ["_law_bag_here", "_law_many"]) KX G (fun _ _ _ _ _ _ us hl => match us, hl with | [_, _], _ => rfl) ?a ?l ?c ?k
      (case a => k_is); (case l => k_is); (case c => k_is); (case k => k_is)
    have D_law_form := by
      refine' Ag.df_mk (x := "_law_form") (st := Ag.s_law_form) (ps := ["_law_bag_here", "_law_words", "_law_deep"]) KX G (fun _ _ _ _ _ _ us hl => match us, hl with | [_, _, _], _ => rfl) ?a ?l ?c ?k
      (case a => k_is); (case l => k_is); (case c => k_is); (case k => k_is)
    have D_law_rows := by
      refine' Ag.df_mk (x := "_law_rows") (st := Ag.s_law_rows) (ps := ["_law_bag_here", "_law_names_here", "_law_words", "_law_many"]) KX G (fun _ _ _ _ _ _ us hl => match us, hl with | [_, _, _, _], _ => rfl) ?a ?l ?c ?k
      (case a => k_is); (case l => k_is); (case c => k_is); (case k => k_is)
    have D_is_letter := by
      refine' Ag.df_mk (x := "is_letter") (st := Ag.s_is_letter) (ps := ["value"]) KX G (fun _ _ _ _ _ _ us hl => match us, hl with | [_], _ => rfl) ?a ?l ?c ?k
      (case a => k_is); (case l => k_is); (case c => k_is); (case k => k_is)
    have D_is_name := by
      refine' Ag.df_mk (x := "is_name") (st := Ag.s_is_name) (ps := ["value"]) KX G (fun _ _ _ _ _ _ us hl => match us, hl with | [_], _ => rfl) ?a ?l ?c ?k
      (case a => k_is); (case l => k_is); (case c => k_is); (case k => k_is)
    have D_is_leaf := by
      refine' Ag.df_mk (x := "is_leaf") (st := Ag.s_is_leaf) (ps := ["value", "holes"]) KX G (fun _ _ _ _ _ _ us hl => match us, hl with | [_, _], _ => rfl) ?a ?l ?c ?k
      (case a => k_is); (case l => k_is); (case c => k_is); (case k => k_is)
    have D_is_built := by
      refine' Ag.df_mk (x := "is_built") (st := Ag.s_is_built) (ps := ["value", "depth", "holes"]) KX G (fun _ _ _ _ _ _ us hl => match us, hl with | [_, _, _], _ => rfl) ?a ?l ?c ?k
      (case a => k_is); (case l => k_is); (case c => k_is); (case k => k_is)
    have D_is_formula := by
      refine' Ag.df_mk (x := "is_formula") (st := Ag.s_is_formula) (ps := ["value"]) KX G (fun _ _ _ _ _ _ us hl => match us, hl with | [_], _ => rfl) ?a ?l ?c ?k
      (case a => k_is); (case l => k_is); (case c => k_is); (case k => k_is)
    have D_is_row := by
      refine' Ag.df_mk (x := "is_row") (st := Ag.s_is_row) (ps := ["value"]) KX G (fun _ _ _ _ _ _ us hl => match us, hl with | [_], _ => rfl) ?a ?l ?c ?k
      (case a => k_is); (case l => k_is); (case c => k_is); (case k => k_is)
    have D_tested_rows := by
      refine' Ag.df_mk (x := "tested_rows") (st := Ag.s_tested_rows) (ps := ["rows"]) KX G (fun _ _ _ _ _ _ us hl => match us, hl with | [_], _ => rfl) ?a ?l ?c ?k
      (case a => k_is); (case l => k_is); (case c => k_is); (case k => k_is)
    have D_is_number := by
      refine' Ag.df_mk (x := "is_number") (st := Ag.s_is_number) (ps := ["value"]) KX G (fun _ _ _ _ _ _ us hl => match us, hl with | [_], _ => rfl) ?a ?l ?c ?k
      (case a => k_is); (case l => k_is); (case c => k_is); (case k => k_is)
    have D_is_place := by
      refine' Ag.df_mk (x := "is_place") (st := Ag.s_is_place) (ps := ["value", "many"]) KX G (fun _ _ _ _ _ _ us hl => match us, hl with | [_, _], _ => rfl) ?a ?l ?c ?k
      (case a => k_is); (case l => k_is); (case c => k_is); (case k => k_is)
    have z_len : mg "len" = none := by
      refine' PySem.W.mg_none_of KX G ?z
      (case z => k_is)
    have z_int : mg "int" = none := by
      refine' PySem.W.mg_none_of KX G ?z
      (case z => k_is)
    have z_list : mg "list" = none := by
      refine' PySem.W.mg_none_of KX G ?z
      (case z => k_is)
    have z_isinstance : mg "isinstance" = none := by
      refine' PySem.W.mg_none_of KX G ?z
      (case z => k_is)
    have z_dict : mg "dict" = none := by
      refine' PySem.W.mg_none_of KX G ?z
      (case z => k_is)
    have z_tuple : mg "tuple" = none := by
      refine' PySem.W.mg_none_of KX G ?z
      (case z => k_is)
    have z_bool : mg "bool" = none := by
      refine' PySem.W.mg_none_of KX G ?z
      (case z => k_is)
    have z_str : mg "str" = none := by
      refine' PySem.W.mg_none_of KX G ?z
      (case z => k_is)
    have z_all : mg "all" = none := by
      refine' PySem.W.mg_none_of KX G ?z
      (case z => k_is)
    have z_zip : mg "zip" = none := by
      refine' PySem.W.mg_none_of KX G ?z
      (case z => k_is)
    have z_sorted : mg "sorted" = none := by
      refine' PySem.W.mg_none_of KX G ?z
      (case z => k_is)
    have z_range : mg "range" = none := by
      refine' PySem.W.mg_none_of KX G ?z
      (case z => k_is)
    have z_enumerate : mg "enumerate" = none := by
      refine' PySem.W.mg_none_of KX G ?z
      (case z => k_is)
    have v_LETTERS : ∃ t, mg "LETTERS" = some (.str "abcdefghijklmnopqrstuvwxyz" t) := by
      refine' Ag.conS_mk KX G ?z
      (case z => k_is)
    have v_LONGEST_NAME : ∃ t, mg "LONGEST_NAME" = some (.int 6 t) := by
      refine' Ag.conI_mk KX G ?z
      (case z => k_is)
    have v_FORMULA_DEPTH : ∃ t, mg "FORMULA_DEPTH" = some (.int 10 t) := by
      refine' Ag.conI_mk KX G ?z
      (case z => k_is)
    have JT := by
      refine' Ag.joints_mk KX G ?a ?l
      (case a => k_is); (case l => k_is)
    have M0 := by
      refine' Ag.ctxm_mk KX G ?a1 ?a2 ?p1 ?p2 ?p3 ?p4 ?p5 ?p6 ?p7 ?p8 ?p9 ?r1 ?r2 ?r3 ?r4 ?r5 ?r6 ?r7 ?r8 ?r9 ?i1 ?i2 ?i3 ?i4 ?ha ?hn ?tk ?mr ?c1 ?c2 ?c3 z_isinstance z_len z_tuple z_enumerate
      (case a1 => k_is); (case a2 => k_is); (case p1 => k_is); (case p2 => k_is); (case p3 => k_is); (case p4 => k_is); (case p5 => k_is); (case p6 => k_is); (case p7 => k_is); (case p8 => k_is); (case p9 => k_is); (case r1 => k_is); (case r2 => k_is); (case r3 => k_is); (case r4 => k_is); (case r5 => k_is); (case r6 => k_is); (case r7 => k_is); (case r8 => k_is); (case r9 => k_is); (case i1 => k_is); (case i2 => k_is); (case i3 => k_is); (case i4 => k_is); (case ha => k_is); (case hn => k_is); (case tk => k_is); (case mr => k_is); (case c1 => k_is); (case c2 => k_is); (case c3 => k_is)
    refine' Ag.law_all KX G hmg ?a ?l ?c ?k ?H
    (case a => k_is); (case l => k_is); (case c => k_is); (case k => k_is)
    case H =>
      intro base _ _ FL
      refine' Ag.law_main FL D_law_bag D_law_pull D_law_any D_law_like D_law_names D_law_form D_law_rows D_is_letter D_is_name D_is_leaf D_is_built D_is_formula D_is_row D_tested_rows D_is_number D_is_place z_len z_int z_list z_isinstance z_dict z_tuple z_bool z_str z_all z_zip z_sorted z_range z_enumerate v_LETTERS v_LONGEST_NAME v_FORMULA_DEPTH JT M0 (Ag.mf_mk (fun _ _ _ _ _ _ us hl => match us, hl with | [_, _], _ => rfl) ?ka ?ki ?kl ?kc ?kk) (Ag.cf_mk ?cl ?cD ?cT ?cc ?ck) (Ag.mf_mk (fun _ _ _ _ _ _ us hl => match us, hl with | [_], _ => rfl) ?ra ?ri ?rl ?rc ?rk) (Ag.mf_mk (fun _ _ _ _ _ _ us hl => match us, hl with | [_, _, _, _], _ => rfl) ?wa ?wi ?wl ?wc ?wk) (Ag.mg_mk ?oa ?oi ?ol ?oc ?ok) (Ag.mf_mk (fun _ _ _ _ _ _ us hl => match us, hl with | [_, _], _ => rfl) ?aa ?ai ?al ?ac ?ak) ?i1 ?i2 ?sf
      (case ka => k_is); (case ki => k_is); (case kl => k_is); (case kc => k_is); (case kk => k_is); (case cl => k_is); (case cD => k_is); (case cT => k_is); (case cc => k_is); (case ck => k_is); (case ra => k_is); (case ri => k_is); (case rl => k_is); (case rc => k_is); (case rk => k_is); (case wa => k_is); (case wi => k_is); (case wl => k_is); (case wc => k_is); (case wk => k_is); (case oa => k_is); (case oi => k_is); (case ol => k_is); (case oc => k_is); (case ok => k_is); (case aa => k_is); (case ai => k_is); (case al => k_is); (case ac => k_is); (case ak => k_is); (case i1 => k_is); (case i2 => k_is); (case sf => k_is)
